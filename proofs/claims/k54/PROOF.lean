import PyProof.Rows.All
import Wide.All
import OpenK.AllK
import Wide.FinOn
import HandS.ForMost
import HandS.IsInst
import HandS.Codes
import HandS.TupAny
import HandS.Deep
import HandS.AnyAll
import HandS.GenList
import HandS.EndOwn
import HandS.TupMul
import HandS.Style
import HandS.Sort
import HandS.Conv
import KE.DataMinMax
import HandS.ForExc
import HandS.ExcInit
import HandS.TryMany
import HandS.SuiteRaise
import HandS.ExcIs
import HandS.FStr
import HandS.More
import PyProof.MinMaxWalk
import HandS.Flow
import HandS.ExcField
import OpenK.KCls
import KE.KPassesOwn
import KE.GoesEnum
import PyProof.SeqIndex
import HandS.Rev
import HandS.Zip
import KE.KExcIs
import PySem.Challenge.RW_allsomeno_k54_whole_models_written_other
set_option Elab.async false
set_option linter.all false
set_option maxRecDepth 100000
set_option maxHeartbeats 4000000
/-! ## all(..) and any(..) of a generator expression whose element may call: the generator's frame is a context of its own, its loop goes by a word of one's own -/
namespace GXX
open PySem PySem.Spec PyProof.Rows L2 GenW
section
variable {prog : Program} {w : World} {A : Around}
/-- the generator's loop, by any word J over (turns left, state): an item out (Yd), the end (Fin) -/
theorem seg_loopJ {elt iter tg : Expr} {scope : Scope} {pos : Pos} {it : Addr} {cenv : Env} {J : Nat → Shared → Prop} {Fn : Shared → Prop} {Yd : Nat → Value → Shared → Prop} {Sl : Value → Shared → Shared → Prop}
    (hco : cenv.scope.isCoroutine = false)
    (turn : ∀ k s, J k s → wpAny (model prog w) (A.over (.compLoop (.GeneratorExp elt [⟨tg, iter, [], 0⟩] scope pos) 0 (.ref it) .none cenv) []) (pyNext (.ref it)) (fun r s1 => match r with
      | none => Fn s1
      | some v => wpAny (model prog w) (A.over (.compLoop (.GeneratorExp elt [⟨tg, iter, [], 0⟩] scope pos) 0 (.ref it) .none cenv) []) (letOwnedTupleGo tg (.ref it) v) (fun _ s2 =>
          wpAny (model prog w) (A.over (.compLoop (.GeneratorExp elt [⟨tg, iter, [], 0⟩] scope pos) 0 (.ref it) .none cenv) []) (assign tg cenv v) (fun _ s3 =>
            wpAny (model prog w) (A.over (.compLoop (.GeneratorExp elt [⟨tg, iter, [], 0⟩] scope pos) 0 (.ref it) .none cenv) []) (eval elt cenv) (fun y s4 => Yd k y s4) (fun _ _ => False) s3) (fun _ _ => False) s2) (fun _ _ => False) s1) (fun _ _ => False) s)
    (back : ∀ k y s s', Yd k y s → Sl y s s' → ∃ k', k' < k ∧ J k' s') :
    ∀ (n k : Nat) (s₀ s : Shared), k < n → J k s →
      Seg (model prog w) A (fun _ _ r s1 => r = .ok .next ∧ Fn s1) (fun _ _ v s kap => ∃ k, Yd k v s ∧ ∀ s', Sl v s s' → kap (.send .none) s') n s₀
        (.compLoop (.GeneratorExp elt [⟨tg, iter, [], 0⟩] scope pos) 0 (.ref it) .none cenv) ((model prog w).den (.compLoop (.GeneratorExp elt [⟨tg, iter, [], 0⟩] scope pos) 0 (.ref it) .none cenv)) [] s := by
  intro n
  induction n with
  | zero => exact fun k _ _ h => absurd h (Nat.not_lt_zero k)
  | succ n ih =>
    intro k s₀ s hk hJ
    show Seg _ A _ _ _ s₀ _ ((compTurn (.GeneratorExp elt [⟨tg, iter, [], 0⟩] scope pos) 0 (.ref it) .none cenv).onRaise (leaving cenv)) [] s
    rw [compTurn_gen, Sem.onRaise_eq_wrap]
    refine seg_bind_wrap (wpAny_standAt ?_)
    refine seg_bind_wrap (wpAny_mono (turn k s hJ) (fun r s1 h1 => ?_) fun _ _ z => z.elim)
    cases r with
    | none => exact seg_end (.ok .next) ⟨rfl, h1⟩
    | some v =>
      refine seg_bind_wrap (wpAny_mono h1 (fun _ s2 h2 => ?_) fun _ _ z => z.elim)
      refine seg_bind_wrap (wpAny_mono h2 (fun _ s3 h3 => ?_) fun _ _ z => z.elim)
      simp only [List.forIn_nil, pure_bind, if_true]
      have hy : ∀ v, yieldOut cenv v = yieldValue v := fun v => by simp only [yieldOut, hco, Bool.false_eq_true, if_false]
      simp only [hy]
      rw [Sem.bind_eq_wrap', Sem.bind_eq_wrap', Sem.wrap_wrap, Sem.wrap_wrap]
      refine seg_wrap (wpAny_mono h3 (fun y s4 h4 => ?_) fun _ _ z => z.elim)
      refine seg_at (seg_yield rfl rfl rfl ⟨k, h4, fun s' hs => ?_⟩)
      obtain ⟨k', hk', hJ'⟩ := back k y s4 s' h4 hs
      exact seg_again rfl (ih k' s' s' (by omega) hJ')
end
end GXX
namespace GXX
open PySem PySem.Spec PyProof.Rows L2 GenW
section
variable {prog : Program} {w : World} {A : Around}
/-- .. from its start -/
theorem seg_startJ {elt iter tg : Expr} {scope : Scope} {pos : Pos} {it : Addr} {cenv : Env} {R : GenEnd} {Y : Protocol} {n : Nat} {s₀ s : Shared}
    (self : ∀ (A' : Around) (Q : Value → Shared → Prop) (E : Value → Shared → Prop), Q (.ref it) s → wpAny (model prog w) A' (pyIter (.ref it)) Q E s)
    (loop : Seg (model prog w) A R Y n s₀ (.compLoop (.GeneratorExp elt [⟨tg, iter, [], 0⟩] scope pos) 0 (.ref it) .none cenv) ((model prog w).den (.compLoop (.GeneratorExp elt [⟨tg, iter, [], 0⟩] scope pos) 0 (.ref it) .none cenv)) [] s) :
    Seg (model prog w) A R Y n s₀ (.compStart (.GeneratorExp elt [⟨tg, iter, [], 0⟩] scope pos) 0 (.ref it) .none cenv) ((model prog w).den (.compStart (.GeneratorExp elt [⟨tg, iter, [], 0⟩] scope pos) 0 (.ref it) .none cenv)) [] s := by
  show Seg _ A _ _ _ s₀ _ ((compStart (.GeneratorExp elt [⟨tg, iter, [], 0⟩] scope pos) 0 (.ref it) .none cenv).onRaise (leaving cenv)) [] s
  unfold compStart
  rw [Sem.onRaise_eq_wrap]
  show Seg _ A _ _ _ s₀ _ ((ask >>= _).wrap _ _ _ _) [] s
  refine seg_bind_wrap (wpAny_askSetting ?_)
  split
  · exact seg_again rfl loop
  · refine seg_bind_wrap (wpAny_rule ?_)
    show Seg _ A _ _ _ s₀ _ ((standAt iter.pos >>= _).wrap _ _ _ _) [] s
    exact seg_bind_wrap (wpAny_standAt (seg_bind_wrap (self _ _ _ (seg_again rfl loop))))
/-! ### all(g), any(g) -/
/-- a generator that sleeps: whoever wakes it goes on by R, Y -/
def Asleep (prog : Program) (w : World) (A : Around) (a : Addr) (g : Nat) (R : GenEnd) (Y : Protocol) (n : Nat) (s : Shared) : Prop :=
  s.heap.IsGen a g ∧ s.heap.NoLimit ∧ ∃ gs, s.gens[g]? = some gs ∧ gs.Goes (model prog w) A R Y n (.send .none) (s.setGen g .running)
/-- while it slept nothing went on -/
structure Still (s s' : Shared) : Prop where
  os : s'.os = s.os
  bare : AllBare s'.gens
  heap : s'.heap = s.heap
abbrev RJ (Fn : Shared → Prop) : GenEnd := fun _ _ r s1 => r = .ok .next ∧ Fn s1
/-- the consumer goes on behind the truth that is not brk -/
def On (brk : Bool) (v : Value) (s s' : Shared) : Prop := v = .bool (!brk) ∧ Still s s'
abbrev YJ (brk : Bool) (Yd : Nat → Value → Shared → Prop) : Protocol := fun _ _ v s kap => ∃ k, Yd k v s ∧ ∀ s', On brk v s s' → kap (.send .none) s'
/-- an item: a truth, the generator as it was -/
def Item (a : Addr) (g : Nat) (Yd : Nat → Value → Shared → Prop) : Prop := ∀ k v s, Yd k v s → (∃ b, v = .bool b) ∧ AllBare s.gens ∧ s.heap.NoLimit ∧ s.heap.IsGen a g
theorem all_loopJ {a : Addr} {g : Nat} {Fn : Shared → Prop} {Yd : Nat → Value → Shared → Prop} {Rr : Result → Shared → Prop} (hh : A.handled = none) (hd : A.depth < recursionLimit) (hi : Item a g Yd)
    (hfin : ∀ s' h', Fn s' → (∀ b o, s'.heap.get? b = some o → h'.get? b = some o) → Rr (.ok (.ret (.bool true))) { s'.setGen g .finished with heap := h' })
    (hno : ∀ k s' gs', Yd k (.bool false) s' → gs'.bare = true → Rr (.ok (.ret (.bool false))) (s'.setGen g gs')) :
    ∀ (n : Nat) (s : Shared), Asleep prog w A.in1.in1 a g (RJ Fn) (YJ false Yd) n s → codeAny (model prog w) A (.builtin "all.loop" ⟨[.ref a], []⟩) Rr s := by
  intro n
  induction n with
  | zero =>
    intro s ⟨hg, hl, gs, hgs, hgo⟩
    refine codeAny_builtin F.entry_all_loop ?_
    rw [Around.under_plainId F.plain_all_loop _]
    show wpAny _ A.in1 (pyNext (.ref a) >>= _) _ _ s
    refine wpAny_bind (wpAny_pyNext_genexpQ (A := A.in1) (P := fun _ _ s1 => Fn s1) hh hl hd hg hgs hgo (fun v s1 gs' hb hv => ?_) fun s1 hp h' hk => ?_)
    · obtain ⟨k, hY, hk⟩ := hv
      obtain ⟨⟨b, rfl⟩, hba, _, _⟩ := hi k v s1 hY
      cases b with
      | true => exact (hk s1 ⟨rfl, rfl, hba, rfl⟩).elim
      | false =>
        refine wpAny_bind (wpAny_holding (wpAny_truthy_bool ?_))
        refine wpAny_bind (wpAny_letGo ?_)
        simp only [Bool.false_eq_true, if_false]
        first
          | exact wpAny_pure (hno k s1 gs' hY hb)
          | exact wpAny_bind (wpAny_rule (wpAny_pure (hno k s1 gs' hY hb)))
    · exact wpAny_bind (wpAny_rule (wpAny_pure (hfin _ _ hp hk)))
  | succ n ih =>
    intro s ⟨hg, hl, gs, hgs, hgo⟩
    have hgl : g < s.gens.size := (Array.getElem?_eq_some_iff.mp hgs).1
    refine codeAny_builtin F.entry_all_loop ?_
    rw [Around.under_plainId F.plain_all_loop _]
    show wpAny _ A.in1 (pyNext (.ref a) >>= _) _ _ s
    refine wpAny_bind (wpAny_gsz (n := g + 1) hgl (wpAny_pyNext_genexpQ (A := A.in1) (P := fun _ _ s1 => Fn s1) hh hl hd hg hgs hgo (fun v s1 gs' hb hv => ?_) fun s1 hp h' hk => ?_))
    · intro hsz
      obtain ⟨k, hY, hk⟩ := hv
      obtain ⟨⟨b, rfl⟩, hba, hl1, hg1⟩ := hi k v s1 hY
      have hsz1 : g < s1.gens.size := by
        have q : (s1.setGen g gs').gens.size = s1.gens.size := setGen_size _ _ _
        have hsz' : g + 1 ≤ (s1.setGen g gs').gens.size := hsz
        omega
      refine wpAny_bind (wpAny_holding (wpAny_truthy_bool ?_))
      refine wpAny_bind (wpAny_letGo ?_)
      cases b with
      | true =>
        simp only [if_true]
        refine wpAny_pure ⟨plainId_quiet F.plain_all_loop _, ih _ ⟨hg1, hl1, gs', setGen_at hsz1, ?_⟩⟩
        exact hk _ ⟨rfl, rfl, allBare_setGen (s := s1.setGen g gs') (allBare_setGen hba hb) rfl, rfl⟩
      | false =>
        simp only [Bool.false_eq_true, if_false]
        first
          | exact wpAny_pure (hno k s1 gs' hY hb)
          | exact wpAny_bind (wpAny_rule (wpAny_pure (hno k s1 gs' hY hb)))
    · intro _
      exact wpAny_bind (wpAny_rule (wpAny_pure (hfin _ _ hp hk)))
theorem any_loopJ {a : Addr} {g : Nat} {Fn : Shared → Prop} {Yd : Nat → Value → Shared → Prop} {Rr : Result → Shared → Prop} (hh : A.handled = none) (hd : A.depth < recursionLimit) (hi : Item a g Yd)
    (hfin : ∀ s' h', Fn s' → (∀ b o, s'.heap.get? b = some o → h'.get? b = some o) → Rr (.ok (.ret (.bool false))) { s'.setGen g .finished with heap := h' })
    (hno : ∀ k s' gs', Yd k (.bool true) s' → gs'.bare = true → Rr (.ok (.ret (.bool true))) (s'.setGen g gs')) :
    ∀ (n : Nat) (s : Shared), Asleep prog w A.in1.in1 a g (RJ Fn) (YJ true Yd) n s → codeAny (model prog w) A (.builtin "any.loop" ⟨[.ref a], []⟩) Rr s := by
  intro n
  induction n with
  | zero =>
    intro s ⟨hg, hl, gs, hgs, hgo⟩
    refine codeAny_builtin F.entry_any_loop ?_
    rw [Around.under_plainId F.plain_any_loop _]
    show wpAny _ A.in1 (pyNext (.ref a) >>= _) _ _ s
    refine wpAny_bind (wpAny_pyNext_genexpQ (A := A.in1) (P := fun _ _ s1 => Fn s1) hh hl hd hg hgs hgo (fun v s1 gs' hb hv => ?_) fun s1 hp h' hk => ?_)
    · obtain ⟨k, hY, hk⟩ := hv
      obtain ⟨⟨b, rfl⟩, hba, _, _⟩ := hi k v s1 hY
      cases b with
      | false => exact (hk s1 ⟨rfl, rfl, hba, rfl⟩).elim
      | true =>
        refine wpAny_bind (wpAny_holding (wpAny_truthy_bool ?_))
        refine wpAny_bind (wpAny_letGo ?_)
        simp only [if_true]
        first
          | exact wpAny_pure (hno k s1 gs' hY hb)
          | exact wpAny_bind (wpAny_rule (wpAny_pure (hno k s1 gs' hY hb)))
    · exact wpAny_bind (wpAny_rule (wpAny_pure (hfin _ _ hp hk)))
  | succ n ih =>
    intro s ⟨hg, hl, gs, hgs, hgo⟩
    have hgl : g < s.gens.size := (Array.getElem?_eq_some_iff.mp hgs).1
    refine codeAny_builtin F.entry_any_loop ?_
    rw [Around.under_plainId F.plain_any_loop _]
    show wpAny _ A.in1 (pyNext (.ref a) >>= _) _ _ s
    refine wpAny_bind (wpAny_gsz (n := g + 1) hgl (wpAny_pyNext_genexpQ (A := A.in1) (P := fun _ _ s1 => Fn s1) hh hl hd hg hgs hgo (fun v s1 gs' hb hv => ?_) fun s1 hp h' hk => ?_))
    · intro hsz
      obtain ⟨k, hY, hk⟩ := hv
      obtain ⟨⟨b, rfl⟩, hba, hl1, hg1⟩ := hi k v s1 hY
      have hsz1 : g < s1.gens.size := by
        have q : (s1.setGen g gs').gens.size = s1.gens.size := setGen_size _ _ _
        have hsz' : g + 1 ≤ (s1.setGen g gs').gens.size := hsz
        omega
      refine wpAny_bind (wpAny_holding (wpAny_truthy_bool ?_))
      refine wpAny_bind (wpAny_letGo ?_)
      cases b with
      | false =>
        simp only [Bool.false_eq_true, if_false]
        refine wpAny_pure ⟨plainId_quiet F.plain_any_loop _, ih _ ⟨hg1, hl1, gs', setGen_at hsz1, ?_⟩⟩
        exact hk _ ⟨rfl, rfl, allBare_setGen (s := s1.setGen g gs') (allBare_setGen hba hb) rfl, rfl⟩
      | true =>
        simp only [if_true]
        first
          | exact wpAny_pure (hno k s1 gs' hY hb)
          | exact wpAny_bind (wpAny_rule (wpAny_pure (hno k s1 gs' hY hb)))
    · intro _
      exact wpAny_bind (wpAny_rule (wpAny_pure (hfin _ _ hp hk)))
end
end GXX
namespace GXX
open PySem PySem.Spec PyProof.Rows L2 GenW
/-- the context of a generator expression's frame, woken by a built-in's loop -/
abbrev genCx (X : Cx) (s : Shared) (H : Hp) (scope : Scope) (cl : List (Str × Addr)) (C : Addr) (code : Value) (c : Env → Code) (fp : List Addr) : Cx :=
  { X with s_0 := s, H_0 := H, env := genEnv scope cl C code builtinsNs X.env, outer := X.stack, stack := genEnv scope cl C code builtinsNs X.env :: X.stack,
           A := X.A.in1.in1.over (c (genEnv scope cl C code builtinsNs X.env)) [], ex := fp, fn := fun _ => false, pn := [], xe := fun _ _ => False }
section
variable {X : Cx} {pins : List (Addr × Obj)} {σ : L2.St} {H : Hp} {s s5 : Shared}
theorem gen_start {scope : Scope} {own : List (Str × Nat)} {fp : List Addr} {code : Value} {c : Env → Code} {a : Addr} {go : Obj} {m : Str → Option Value}
    (I : Inv X pins σ H s) (ok : BlkOk X.N X.env.scope scope own) (noc : ∀ y ∈ scope.names, y.2 ≠ .cell) (hN : X.N.Nodup) (hfp : ∀ b ∈ fp, FpOk X pins H b ∧ b < s.heap.objs.size)
    (hc : ∀ e, (c e).envs = [e]) (kp : ∀ b o, s.heap.get? b = some o → s5.heap.get? b = some o) (hos : s5.os = s.os) (hba : AllBare s5.gens) (hm : s5.heap.Ns s.heap.objs.size m)
    (hga : s5.heap.get? a = some go) (hgd : ∀ v, go.data ≠ .cell v) (ha : s.heap.objs.size < a) :
    Inv (genCx X s H scope (cloFrom X.env.cells scope.names []) s.heap.objs.size code c fp) [(a, go)] (wipe σ (own.map (·.2))) H s5 := by
  have hfree : ∀ y ∈ scope.names, y.2 = .free → ∃ c, X.env.cells.lookup y.1 = some c := fun y hy e => (ok.free y hy e).elim (fun k => I.ok.has _ (.inl k)) fun k => I.ok.has _ (.inr k)
  have cm : ∀ {y b}, (y, b) ∈ cloFrom X.env.cells scope.names [] → X.env.cells.lookup y = some b := fun {y b} hm => by
    rcases cloFrom_mem hm with hm | ⟨h1, rfl⟩
    · cases hm
    · obtain ⟨c, hc⟩ := hfree _ h1 rfl
      rw [hc]
      rfl
  have cl : ∀ {y b}, (cloFrom X.env.cells scope.names []).lookup y = some b → X.env.cells.lookup y = some b := fun e => cm (PySem.mem_of_lookup e)
  have look : ∀ {y}, scope.names.lookup y = some .free → ∃ b, (cloFrom X.env.cells scope.names []).lookup y = some b ∧ X.env.cells.lookup y = some b := fun {y} hl => by
    obtain ⟨b, e⟩ := mem_lookup (cloFrom_has (cells := X.env.cells) (acc := []) (PySem.mem_of_lookup hl))
    exact ⟨b, e, cl e⟩
  have nocell : ∀ {y}, scope.names.lookup y = some .cell → False := fun {y} e => noc _ (PySem.mem_of_lookup e) rfl
  have hX : (genCx X s H scope (cloFrom X.env.cells scope.names []) s.heap.objs.size code c fp).Ok :=
    { mod := I.ok.mod, kind := ok.kind, glob := I.ok.glob, blt := rfl, above := Nat.le_refl _,
      inj := fun y z b e1 e2 => I.ok.inj y z b (cl e1) (cl e2),
      has := fun y hy => by
        rcases hy with hy | hy
        · exact (nocell hy).elim
        · obtain ⟨b, e, _⟩ := look hy
          exact ⟨b, e⟩
      cab := fun y b z _ => nomatch z
      hd := I.ok.hd
      frames := by
        show pushEnvs (c _).envs (pushEnvs (envsOf []) X.A.frames) = _
        rw [hc, I.ok.frames]
        rfl
      stk := .inr ⟨rfl, rfl⟩
      exf := fun b hb => ⟨Nat.ne_of_lt (hfp b hb).2, fun y e h z => (hfp b hb).1.2.2.2.2.1 y e (cl h) z⟩
      bs := I.bs
      bsz := Nat.le_trans I.ok.bsz I.sz
      noex := fun b o e hb => (hfp b hb).1.2.2.2.1.elim (fun z => I.ok.noex b o e z) fun z => absurd (Nat.lt_of_lt_of_le (Heap.lt_size e) (Nat.le_trans I.ok.bsz z)) (Nat.lt_irrefl _)
      exfs := fun b hb z => (List.mem_cons.mp (I.stkSub b z)).elim (fun z => (hfp b hb).1.2.1 z) fun z => (hfp b hb).1.2.2.1 z
      funs := I.stack
      frf := I.stkFree }
  refine ⟨hX, hos, hba, Un.kept kp, ⟨m, hm, fun i y v e1 e2 e3 => ?_⟩, fun y b e => ?_, I.hok.fresh (Nat.le_refl _), fun y b e => I.freeC y b (cl e), fun p hp => ?_, I.hok.kept kp, by rw [wipe_length]; exact I.len⟩
  · obtain ⟨e2, hne⟩ := wipe_some e2
    have no : ∀ k, scope.names.lookup y = some k → k = .local ∨ k = .cell → False := fun k e hk => by
      rcases ok.own _ (PySem.mem_of_lookup e) hk with e' | e'
      · obtain ⟨p, hp, hpy⟩ := List.mem_map.mp e'
        have e4 := ok.ix p hp
        have hpy : p.1 = y := hpy
        rw [hpy] at e4
        exact hne (List.mem_map.mpr ⟨p, hp, nodup_ix hN e4 e1⟩)
      · exact e' (List.mem_of_getElem? e1)
    have fr : scope.names.lookup y = some .free := by
      rcases e3 with e3 | e3 | e3
      · exact (no _ e3 (.inl rfl)).elim
      · exact (no _ e3 (.inr rfl)).elim
      · exact e3
    obtain ⟨b, h1, h2⟩ := look fr
    obtain ⟨m', _, hl⟩ := I.loc
    have hv := ok.free _ (PySem.mem_of_lookup fr) rfl
    obtain ⟨u, r, q⟩ := hl i y v e1 e2 (hv.elim (fun k => .inr (.inl k)) fun k => .inr (.inr k))
    refine ⟨u, r, .inr ⟨.inr fr, b, h1, ?_⟩⟩
    rcases q with ⟨k, _⟩ | ⟨_, b', e', z⟩
    · have k : X.env.scope.names.lookup y = some .local := k
      rcases hv with k' | k' <;> (rw [k'] at k; cases k)
    · rw [h2] at e'
      cases e'
      exact z.keeps kp
  · obtain ⟨v, z⟩ := I.cell y b (cl e)
    exact ⟨v, z.keeps kp⟩
  · have hp : p ∈ ([] : List (Addr × Obj)) ++ [(a, go)] := hp
    rw [List.nil_append, List.mem_singleton] at hp
    subst hp
    refine ⟨hga, I.hok.fresh (Nat.le_of_lt ha), Nat.ne_of_gt ha, fun hb => ?_, hgd⟩
    rcases List.mem_cons.mp (I.stkSub a hb) with z | z
    · exact absurd (Nat.lt_trans (by rw [z]; exact I.lt) ha) (Nat.lt_irrefl _)
    · exact I.nofs (Nat.le_of_lt ha) z
/-- nothing went on -/
theorem inv_still {s' : Shared} (I : Inv X pins σ H s) (st : Still s s') : Inv X pins σ H s' := by
  obtain ⟨h', g', d', t', o'⟩ := s'
  obtain ⟨e1, e2, e3⟩ := st
  have e1 : o' = s.os := e1
  have e3 : h' = s.heap := e3
  subst e1 e3
  exact I.step (g' := g') (d' := d') (t' := t') (h' := s.heap) (ch := []) (fun b hb => absurd hb (by simp)) (fun b o _ _ _ e _ => e) (fun b o _ _ _ e _ => ⟨o.slots, e⟩) (fun b o _ _ n => n) (fun b o _ e => ⟨o, e⟩)
    (fun _ _ e => e) (fun _ _ _ e => e) (fun b ps e => ⟨#[], by rw [e]; simp⟩) (fun m hm => hm) I.hok e2
end
end GXX
namespace GXX
open PySem PySem.Spec PyProof.Rows L2 GenW GxR
/-- what all(..) (brk = false), any(..) (brk = true) of a generator expression ask: the walked thing, a word over (turn, turns left, heap), one turn: the target, the element, a truth -/
def tGen (P : Addr) (wi : TI) (g : TG) (te : TE) (vs : List Nat) (brk : Bool) : TE := fun σ H Q => wi σ H fun J H1 => TabG H1 P ∧ ∀ H2, Tabbed P H1 H2 → ∃ W : Nat → Nat → Hp → Prop, (∃ m, W 0 m H2) ∧ ∀ i m H, W i m H →
  (J.stop i H ∧ Q (.bl (!brk)) H) ∨ (J.go i H ∧ ∃ Nx : Hp → Prop, (∀ H', Nx H' → ∃ m', m' < m ∧ W (i + 1) m' H') ∧ ∀ x H', J.yld i H x H' → g x (wipe σ vs) H' fun σ2 H2 => wipe σ2 vs = wipe σ vs ∧
    te σ2 H2 fun y H3 => ∃ b, y = .bl b ∧ (b ≠ brk → Nx H3) ∧ (b = brk → Q (.bl brk) H3))
/-- the code that a generator expression runs -/
abbrev genCode (elt tg iter : Expr) (scope : Scope) (pos : Pos) (it : Addr) : Env → Code := fun e => .compLoop (.GeneratorExp elt [⟨tg, iter, [], 0⟩] scope pos) 0 (.ref it) .none e
theorem room_gen {X : Cx} {k : Nat} {s : Shared} {H : Hp} {scope sc2 : Scope} {cl : List (Str × Addr)} {C it : Addr} {code : Value} {fp : List Addr} {elt tg iter : Expr} {pos : Pos} (hr : Room (k + 1) X.A) : Room k (genCx X s H scope cl C code (genCode elt tg iter sc2 pos it) fp).A := by
  refine ⟨hr.hd, ?_, ?_⟩
  · have := hr.dp
    show X.A.depth + 0 + 1 + 3 * k + 5 < _
    omega
  · have := hr.un
    show X.A.units + 1 + 1 + 0 + 3 + 16 * k + 200 < _
    omega
section
variable {X : Cx} {pins : List (Addr × Obj)} {σ : L2.St} {H : Hp} {s : Shared}
theorem gen_made {c0 P : Addr} {elt iter tg : Expr} {scope : Scope} {gpos : Pos} {own : List (Str × Nat)} {wi : TI} {g : TG} {te : TE} {brk : Bool} {Q : VK} {Q' : Value → Shared → Prop}
    (hcalm : X.calm = true) (hhd : X.A.handled = none) (hdp : X.A.depth < recursionLimit) (TB : TabB X.base X.mg c0 P) (hcode : X.env.code = .ref c0) (hi : PI X tg iter wi) (ok : BlkOk X.N X.env.scope scope own) (noc : ∀ y ∈ scope.names, y.2 ≠ .cell)
    (hN : X.N.Nodup) (hdot : scope.names.lookup (".0" : Str) = some NameKind.local) (hco : scope.isCoroutine = false)
    (hg : ∀ (s : Shared) (H : Hp) (cl : List (Str × Addr)) (C : Addr) (code : Value) (it : Addr) (fp : List Addr), PG (genCx X s H scope cl C code (genCode elt tg iter scope gpos it) fp) tg g)
    (he : ∀ (s : Shared) (H : Hp) (cl : List (Str × Addr)) (C : Addr) (code : Value) (it : Addr) (fp : List Addr), PE (genCx X s H scope cl C code (genCode elt tg iter scope gpos it) fp) elt te)
    (hs : ∀ v, genFold iter X.env v = pure v) (I : Inv X pins σ H s) (h : tGen P wi g te (own.map (·.2)) brk σ H Q)
    (hQ : ∀ (a : Addr) (g0 n : Nat) (s5 : Shared) (Fn : Shared → Prop) (Yd : Nat → Value → Shared → Prop), Item a g0 Yd →
      (∀ s' h', Fn s' → (∀ b o, s'.heap.get? b = some o → h'.get? b = some o) → EP X pins σ Q (.bool (!brk)) { s'.setGen g0 .finished with heap := h' }) →
      (∀ k s' gs', Yd k (.bool brk) s' → gs'.bare = true → EP X pins σ Q (.bool brk) (s'.setGen g0 gs')) →
      Asleep X.prog X.w X.A.in1.in1 a g0 (RJ Fn) (YJ brk Yd) n s5 → Q' (.ref a) s5) :
    wpAny (model X.prog X.w) X.A (eval (.GeneratorExp elt [⟨tg, iter, [], 0⟩] scope gpos) X.env) Q' X.xe s := by
  have hfree : ∀ y ∈ scope.names, y.2 = .free → ∃ c, X.env.cells.lookup y.1 = some c := fun y hy e => (ok.free y hy e).elim (fun k => I.ok.has _ (.inl k)) fun k => I.ok.has _ (.inr k)
  refine wpAny_GeneratorExp_make hco (closure_ok hfree) noc hdot ok.kind hdp ?_ hs
  refine thn (hi.run pins s σ H _ I h) fun xv s1 h1 => thn h1 fun itv s2 h2 => ?_
  obtain ⟨it, fp, tn, J, H2, e, I2, T, st2, f2, ⟨ps, hP, ht⟩, q⟩ := h2
  subst e
  refine ⟨I2.nolimit, ?_⟩
  have hPs : s2.heap.get? P = some { cls := .none, data := .fields ps } := I2.hok P _ hP
  have cd : PySem.W.CodeHd s2.heap c0 P := TB.code.keeps fun b u e => I2.bk b u e
  have fpP : ∀ b ∈ fp, b ≠ P := fun b hb z => by
    have := (f2 b hb).1
    rw [z, hP] at this
    cases this
  -- behind the code's making
  have cont : ∀ (code : Value) (s3 : Shared) (H3 : Hp), Inv X pins σ H3 s3 → Tabbed P H2 H3 → (∀ b o, b ≠ P → s2.heap.get? b = some o → s3.heap.get? b = some o) →
      wpAny (model X.prog X.w) X.A (builtinsFor X.env.globals X.env.builtins) (fun bi s4 => ∀ h', h'.Ns s4.heap.objs.size (fun y => if y = ".0" then some (Value.ref it) else none) → Heap.SameBut s4.heap.objs.size (s4.heap.push { cls := .type "frame", data := .dict #[] }) h' →
          Q' (.ref h'.objs.size) { s4 with
            gens := s4.gens.push (.fresh (.compStart (.GeneratorExp elt [⟨tg, iter, [], 0⟩] scope gpos) 0 (.ref it) .none (genEnv scope (cloFrom X.env.cells scope.names []) s4.heap.objs.size code bi X.env))),
            toks := s4.toks + 1 + 1 + 1,
            heap := h'.push { cls := .type "generator", data := .fields #[.int s4.gens.size 0, .str "<genexpr>" (s4.toks + 1), .str (X.env.qual ++ "<genexpr>") (s4.toks + 1 + 1)] } }) X.xe s3 := by
    intro code s3 H3 I3 htab k23
    obtain ⟨bm, ob, e1, e2, e3, e4, e5, e6, e7, e8⟩ := TB.bm
    refine wpAny_builtinsFor (m := X.mg) (by rw [I3.ok.glob]; exact I3.mod.glob.keeps I3.bk) e1 e2 (I3.bk _ _ e5) e6 e7 e8 ?_
    intro h' hns hsb
    obtain ⟨W, ⟨m0, w0⟩, turn⟩ := q H3 htab
    generalize hgo : ({ cls := .type "generator", data := .fields #[.int s3.gens.size 0, .str "<genexpr>" (s3.toks + 1), .str (X.env.qual ++ "<genexpr>") (s3.toks + 1 + 1)] } : Obj) = go
    generalize hs5 : ({ s3 with gens := s3.gens.push (.fresh (.compStart (.GeneratorExp elt [⟨tg, iter, [], 0⟩] scope gpos) 0 (.ref it) .none (genEnv scope (cloFrom X.env.cells scope.names []) s3.heap.objs.size code builtinsNs X.env))), toks := s3.toks + 1 + 1 + 1, heap := h'.push go } : Shared) = s5
    have h5 : s5.heap = h'.push go := by rw [← hs5]
    have g5 : s5.gens = s3.gens.push (.fresh (.compStart (.GeneratorExp elt [⟨tg, iter, [], 0⟩] scope gpos) 0 (.ref it) .none (genEnv scope (cloFrom X.env.cells scope.names []) s3.heap.objs.size code builtinsNs X.env))) := by rw [← hs5]
    have o5 : s5.os = s3.os := by rw [← hs5]
    have sz' : h'.objs.size = s3.heap.objs.size + 1 := by rw [hsb.1, Heap.size_push]
    have k3' : ∀ b o, s3.heap.get? b = some o → h'.get? b = some o := fun b o e => (hsb.2 b (Nat.ne_of_lt (Heap.lt_size e))).trans (Heap.get?_push_of_some _ e)
    have k35 : ∀ b o, s3.heap.get? b = some o → s5.heap.get? b = some o := fun b o e => by rw [h5]; exact Heap.get?_push_of_some _ (k3' b o e)
    have ga : s5.heap.get? h'.objs.size = some go := by
      rw [h5, ← hgo]
      exact Heap.get?_push_size _ rfl
    have gd : ∀ v, go.data ≠ .cell v := fun v z => by
      rw [← hgo] at z
      cases z
    have isg : ∀ {h6 : Heap}, h6.get? h'.objs.size = some go → h6.IsGen h'.objs.size s3.gens.size := fun e => ⟨go, _, _, e, by rw [← hgo], by rw [← hgo], by rw [← hgo]⟩
    have f3 : ∀ b ∈ fp, FpOk X pins H3 b ∧ b < s3.heap.objs.size := fun b hb => by
      obtain ⟨o, e, _⟩ := T.obj _ _ st2 b hb
      refine ⟨⟨?_, (f2 b hb).2⟩, Heap.lt_size (k23 b o (fpP b hb) e)⟩
      rw [htab.2 b (fpP b hb)]
      exact (f2 b hb).1
    have st5 : tn 0 s5.heap := T.keep _ _ _ st2 fun b hb o e => k35 b o (k23 b o (fpP b hb) e)
    have b5 : AllBare s5.gens := by
      rw [g5]
      exact I3.bare.push rfl
    have ns5 : s5.heap.Ns s3.heap.objs.size (fun y => if y = ".0" then some (Value.ref it) else none) := by
      rw [h5]
      exact hns.push _
    have I5 := gen_start (code := code) (c := genCode elt tg iter scope gpos it) I3 ok noc hN f3 (fun _ => rfl) k35 o5 b5 ns5 ga gd (by rw [sz']; exact Nat.lt_succ_self _)
    generalize hXg : genCx X s3 H3 scope (cloFrom X.env.cells scope.names []) s3.heap.objs.size code (genCode elt tg iter scope gpos it) fp = Xg at I5
    have pg : PG Xg tg g := by rw [← hXg]; exact hg _ _ _ _ _ _ _
    have pe : PE Xg elt te := by rw [← hXg]; exact he _ _ _ _ _ _ _
    have xP : Xg.prog = X.prog := by rw [← hXg]
    have xw : Xg.w = X.w := by rw [← hXg]
    have xK : Xg.K = X.K := by rw [← hXg]
    have xc : Xg.calm = true := by rw [← hXg]; exact hcalm
    have xA : Xg.A = X.A.in1.in1.over (.compLoop (.GeneratorExp elt [⟨tg, iter, [], 0⟩] scope gpos) 0 (.ref it) .none (genEnv scope (cloFrom X.env.cells scope.names []) s3.heap.objs.size code builtinsNs X.env)) [] := by rw [← hXg]
    have xE : Xg.env = genEnv scope (cloFrom X.env.cells scope.names []) s3.heap.objs.size code builtinsNs X.env := by rw [← hXg]
    have xe : Xg.xe = fun _ _ => False := by rw [← hXg]
    have xn : Xg.pn = [] := by rw [← hXg]
    have xex : Xg.ex = fp := by rw [← hXg]
    have fp5 : ∀ b ∈ fp, b ≠ h'.objs.size := fun b hb z => by
      have := (f3 b hb).2
      rw [z, sz'] at this
      exact absurd this (Nat.not_lt.mpr (Nat.le_succ _))
    have stat : ∀ {σ' : L2.St} {H' : Hp} {s' : Shared}, Inv Xg [(h'.objs.size, go)] σ' H' s' → (∀ b ∈ fp, H' b = none) → ∀ b ∈ fp, FpOk Xg [(h'.objs.size, go)] H' b := fun {σ' H' s'} I' hn b hb =>
      ⟨hn b hb, (I'.ok.exf b (by rw [xex]; exact hb)).1, I'.ok.exfs b (by rw [xex]; exact hb), .inl (by rw [xex]; exact hb), fun x c e => (I'.ok.exf b (by rw [xex]; exact hb)).2 x c e, fun p hp => by
        rw [xn, List.nil_append, List.mem_singleton] at hp
        rw [hp]
        exact (fp5 b hb).symm⟩
    have atg : ∀ {σ' : L2.St} {H' : Hp} {s' : Shared}, Inv Xg [(h'.objs.size, go)] σ' H' s' → s'.heap.get? h'.objs.size = some go := fun I' => (I'.pin (h'.objs.size, go) (List.mem_append_right _ List.mem_cons_self)).1
    -- back in the def
    have out : ∀ {σ' : L2.St} {H' : Hp} {s' s'' : Shared}, Inv Xg [(h'.objs.size, go)] σ' H' s' → s''.os = s'.os → AllBare s''.gens → (∀ b o, s'.heap.get? b = some o → s''.heap.get? b = some o) → Inv X pins σ H' s'' := fun {σ' H' s' s''} I' ho hb hk => by
      have un := I'.base
      have os' := I'.os
      have ok' := I'.hok
      rw [← hXg] at un os' ok'
      exact I3.call' (ch := fp) (ho.trans os') (un.trans (Un.kept hk)) (ok'.kept hk) hb fun b hb => ⟨(f3 b hb).1.2.2.2.1, (f3 b hb).1.2.1, (f3 b hb).1.2.2.2.2.1, (f3 b hb).1.2.2.2.2.2⟩
    refine hQ h'.objs.size s3.gens.size (m0 + 1) s5 (fun s' => ∃ σ' H', Inv Xg [(h'.objs.size, go)] σ' H' s' ∧ Q (.bl (!brk)) H')
      (fun k v s' => ∃ b σ' H', v = .bool b ∧ Inv Xg [(h'.objs.size, go)] σ' H' s' ∧ (b ≠ brk → ∃ i k', k' < k ∧ Inv Xg [(h'.objs.size, go)] (wipe σ (own.map (·.2))) H' s' ∧ tn i s'.heap ∧ (∀ b ∈ fp, H' b = none) ∧ W i k' H') ∧ (b = brk → Q (.bl brk) H'))
      (fun k v s' hy => ?_) (fun s' h6 hf hk => ?_) (fun k s' gs' hy hb => ?_) ⟨isg ga, I5.nolimit, .fresh (.compStart (.GeneratorExp elt [⟨tg, iter, [], 0⟩] scope gpos) 0 (.ref it) .none (genEnv scope (cloFrom X.env.cells scope.names []) s3.heap.objs.size code builtinsNs X.env)), by rw [g5]; exact Array.getElem?_push_size .., rfl, ?_⟩
    · obtain ⟨b, σ', H', rfl, I', _⟩ := hy
      exact ⟨⟨b, rfl⟩, I'.bare, I'.nolimit, isg (atg I')⟩
    · obtain ⟨σ', H', I', qf⟩ := hf
      exact ⟨.bl (!brk), H', out I' rfl (allBare_setGen I'.bare rfl) hk, rfl, qf⟩
    · obtain ⟨b, σ', H', hv, I', _, qb⟩ := hy
      cases hv
      exact ⟨.bl brk, H', out I' rfl (allBare_setGen I'.bare hb) (fun _ _ e => e), rfl, qb rfl⟩
    · -- the loop
      have run0 : Still s5 (s5.setGen s3.gens.size .running) := ⟨rfl, allBare_setGen b5 rfl, rfl⟩
      refine seg_startJ (fun A' Q E hq => T.self A' 0 _ Q E st5 hq) ?_
      refine seg_loopJ (J := fun k s' => ∃ i H', Inv Xg [(h'.objs.size, go)] (wipe σ (own.map (·.2))) H' s' ∧ tn i s'.heap ∧ (∀ b ∈ fp, H' b = none) ∧ W i k H') (Sl := On brk) hco (fun k s' hJ => ?_) (fun k y s' s'' hy hst => ?_) (m0 + 1) m0 _ _ (Nat.lt_succ_self _)
        ⟨0, H3, inv_still I5 run0, by rw [run0.heap]; exact st5, fun b hb => (f3 b hb).1.1, w0⟩
      · obtain ⟨i, H', I', st', n', w'⟩ := hJ
        have T' : Turn Xg.prog Xg.w Xg.K tg J fp it tn := by
          rw [xP, xw, xK]
          exact T
        rw [← xP, ← xw, ← xA, ← xE]
        rcases turn i k H' w' with ⟨stop, qq⟩ | ⟨go', Nx, hNx, step⟩
        · refine thnF (T'.done Xg rfl rfl rfl xc i _ s' _ H' (fun _ _ => False) I' (stat I' n') st' stop) fun r s6 ⟨hr, I6⟩ => ?_
          subst hr
          exact ⟨_, H', I6, qq⟩
        · refine thnF (T'.item Xg rfl rfl rfl xc i _ s' _ H' (fun _ _ => False) I' (stat I' n') st' go') fun r s6 ⟨u, hr, h6⟩ => ?_
          subst hr
          refine thnF h6 fun _ s7 ⟨x, H7, I7, r7, y7, st7, n7⟩ => ?_
          have I7' := I7.pinned (stat I7 n7) (T.obj _ _ st7)
          refine wpAny_mono (pg.run _ s7 _ H7 x u _ I7' r7 (step x H7 y7)) (fun _ s8 ⟨σ8, H8, I8, hw8, q8⟩ => ?_) fun _ _ z => by rw [xe] at z; exact z
          refine wpAny_mono (pe.run _ s8 σ8 H8 _ I8 q8) (fun z s9 ⟨yv, H9, I9, r9, b, hb, q1, q2⟩ => ?_) fun _ _ z => by rw [xe] at z; exact z
          subst hb
          have ez : z = Value.bool b := r9
          refine ⟨b, σ8, H9, ez, I9.unpinned, fun hne => ?_, q2⟩
          obtain ⟨m', hm, w9⟩ := hNx H9 (q1 hne)
          have pin9 : ∀ b ∈ fp, ∀ o, s7.heap.get? b = some o → s9.heap.get? b = some o ∧ H9 b = none := fun b hb o e =>
            let z := I9.pin (b, o) (List.mem_append_right _ (List.mem_append_right _ (mem_pinsAt hb e)))
            ⟨z.1, z.2.1⟩
          have hl : (wipe σ (own.map (·.2))).length = σ8.length := by rw [← hw8, wipe_length]
          refine ⟨i + 1, m', hm, (I9.unpinned).weak hl (fun j v e => ?_), T.keep _ _ _ st7 fun b hb o e => (pin9 b hb o e).1, fun b hb => ?_, w9⟩
          · rw [← hw8] at e
            exact (wipe_some e).1
          · obtain ⟨o, e, _⟩ := T.obj _ _ st7 b hb
            exact (pin9 b hb o e).2
      · obtain ⟨b, σ', H', hv, _, q1, _⟩ := hy
        obtain ⟨ev, st⟩ := hst
        rw [hv] at ev
        obtain ⟨i, k', hk, I', t', n', w'⟩ := q1 (fun z => by
          rw [z] at ev
          cases brk <;> cases ev)
        exact ⟨k', hk, i, H', inv_still I' st, by rw [st.heap]; exact t', n', w'⟩
  cases hf : codeAmong gpos ps.toList with
  | none =>
    refine wpAny_genexprCodeX hcode (cd.code hPs ht) (cd.tab hPs) hf fun c' h3 tk hx _ _ hco' _ htab' _ => ?_
    obtain ⟨_, _, _, _, _, _, _, _, _, _, _, _, _, _, _, _, _, _, _, htr, _⟩ := hco'
    have k23 : ∀ b o, b ≠ P → s2.heap.get? b = some o → h3.get? b = some o := fun b o hb e => hx b o hb e
    exact cont _ _ _ (inv_tab (g' := s2.gens) (d' := s2.drawn) (t' := tk) I2 hP k23 htab'.2 I2.bare) ⟨⟨_, upd_same, htr⟩, fun b hb => upd_ne hb⟩ k23
  | some cv =>
    refine wpAny_genexprCode_hit hcode (cd.code hPs ht) hf ?_
    exact cont cv s2 H2 I2 ⟨⟨ps, hP, ht⟩, fun _ _ => rfl⟩ fun _ _ _ e => e
end
end GXX
namespace GXX
open PySem PySem.Spec PyProof.Rows L2 GenW GxR
section
variable {X : Cx} {c0 P : Addr} {elt iter tg : Expr} {scope : Scope} {p gpos pos : Pos} {own : List (Str × Nat)} {wi : TI} {g : TG} {te : TE} {k : Nat}
/-- all(elt for tg in iter) -/
theorem pe_genAll (hcalm : X.calm = true) (hr : Room k X.A) (hgl : Gl X "all") (hm : X.mg "all" = none) (TB : TabB X.base X.mg c0 P) (hcode : X.env.code = .ref c0) (hN : X.N.Nodup) (hi : PI X tg iter wi) (ok : BlkOk X.N X.env.scope scope own)
    (noc : ∀ y ∈ scope.names, y.2 ≠ .cell) (hdot : scope.names.lookup (".0" : Str) = some NameKind.local) (hco : scope.isCoroutine = false)
    (hg : ∀ (s : Shared) (H : Hp) (cl : List (Str × Addr)) (C : Addr) (code : Value) (it : Addr) (fp : List Addr), PG (genCx X s H scope cl C code (genCode elt tg iter scope gpos it) fp) tg g)
    (he : ∀ (s : Shared) (H : Hp) (cl : List (Str × Addr)) (C : Addr) (code : Value) (it : Addr) (fp : List Addr), PE (genCx X s H scope cl C code (genCode elt tg iter scope gpos it) fp) elt te)
    (hs : ∀ v, genFold iter X.env v = pure v := by intro _; rfl)
    (he0 : starEach [.GeneratorExp elt [⟨tg, iter, [], 0⟩] scope gpos] X.env = (false, eval (.GeneratorExp elt [⟨tg, iter, [], 0⟩] scope gpos) X.env) :: starEach [] X.env := by rfl) :
    PE X (.Call (.Name "all" p) [.GeneratorExp elt [⟨tg, iter, [], 0⟩] scope gpos] [] pos) (tGen P wi g te (own.map (·.2)) false) := by
  refine ⟨fun pins s σ H Q I h => ?_⟩
  have hb : bootBuiltins "all" = some (.builtin "all") := by decide +kernel
  have hdp := hr.dp
  refine wpAny_Call_Name_kw (ld_blt I hgl hm hb ?_)
  refine PyProof.Rows.callWith_builtin1 ?_ he0 (by rfl)
  rw [he0]
  show wpAny _ _ (spliced ((false, eval (.GeneratorExp elt [⟨tg, iter, [], 0⟩] scope gpos) X.env) :: backTo pos (starEach [] X.env))) _ _ s
  refine Calls.spliced_cons (gen_made hcalm hr.hd (by omega) TB hcode hi ok noc hN hdot hco hg he hs I h fun a g0 n s5 Fn Yd hit hf hno hsl => ?_)
  refine Calls.spliced_nil ?_
  refine call_function_tree F.kind_all F.plain_all F.entry_all (F.args_all1 _) ?_
  unfold Builtin.«all»
  refine wpAny_bind (m := oneArg "all" _) (wpAny_pure ?_)
  refine wpAny_bind (wpAny_pyIter_gen hsl.1 ?_)
  exact wpAny_pure ⟨plainId_quiet F.plain_all_loop _, all_loopJ hr.hd (by omega) hit hf hno n s5 hsl⟩
/-- any(elt for tg in iter) -/
theorem pe_genAny (hcalm : X.calm = true) (hr : Room k X.A) (hgl : Gl X "any") (hm : X.mg "any" = none) (TB : TabB X.base X.mg c0 P) (hcode : X.env.code = .ref c0) (hN : X.N.Nodup) (hi : PI X tg iter wi) (ok : BlkOk X.N X.env.scope scope own)
    (noc : ∀ y ∈ scope.names, y.2 ≠ .cell) (hdot : scope.names.lookup (".0" : Str) = some NameKind.local) (hco : scope.isCoroutine = false)
    (hg : ∀ (s : Shared) (H : Hp) (cl : List (Str × Addr)) (C : Addr) (code : Value) (it : Addr) (fp : List Addr), PG (genCx X s H scope cl C code (genCode elt tg iter scope gpos it) fp) tg g)
    (he : ∀ (s : Shared) (H : Hp) (cl : List (Str × Addr)) (C : Addr) (code : Value) (it : Addr) (fp : List Addr), PE (genCx X s H scope cl C code (genCode elt tg iter scope gpos it) fp) elt te)
    (hs : ∀ v, genFold iter X.env v = pure v := by intro _; rfl)
    (he0 : starEach [.GeneratorExp elt [⟨tg, iter, [], 0⟩] scope gpos] X.env = (false, eval (.GeneratorExp elt [⟨tg, iter, [], 0⟩] scope gpos) X.env) :: starEach [] X.env := by rfl) :
    PE X (.Call (.Name "any" p) [.GeneratorExp elt [⟨tg, iter, [], 0⟩] scope gpos] [] pos) (tGen P wi g te (own.map (·.2)) true) := by
  refine ⟨fun pins s σ H Q I h => ?_⟩
  have hb : bootBuiltins "any" = some (.builtin "any") := by decide +kernel
  have hdp := hr.dp
  refine wpAny_Call_Name_kw (ld_blt I hgl hm hb ?_)
  refine PyProof.Rows.callWith_builtin1 ?_ he0 (by rfl)
  rw [he0]
  show wpAny _ _ (spliced ((false, eval (.GeneratorExp elt [⟨tg, iter, [], 0⟩] scope gpos) X.env) :: backTo pos (starEach [] X.env))) _ _ s
  refine Calls.spliced_cons (gen_made hcalm hr.hd (by omega) TB hcode hi ok noc hN hdot hco hg he hs I h fun a g0 n s5 Fn Yd hit hf hno hsl => ?_)
  refine Calls.spliced_nil ?_
  refine call_function_tree F.kind_any F.plain_any F.entry_any (F.args_any1 _) ?_
  unfold Builtin.«any»
  refine wpAny_bind (m := oneArg "any" _) (wpAny_pure ?_)
  refine wpAny_bind (wpAny_pyIter_gen hsl.1 ?_)
  exact wpAny_pure ⟨plainId_quiet F.plain_any_loop _, any_loopJ hr.hd (by omega) hit hf hno n s5 hsl⟩
end
/-- a word over a tuple, for all(..): every turn's truth, each as its item asks -/
theorem gen_tup {K : PySem.W.Frag} {a : Addr} {xs : List V} {g : TG} {te : TE} {vs : List Nat} {σ : L2.St} {H1 : Hp} {brk : Bool} {Q : VK} (Pv : Nat → Hp → Prop) (h0 : Pv 0 H1) (hl : ∀ i H, i ≤ xs.length → Pv i H → SqT K H a xs)
    (hs : ∀ i x H, xs[i]? = some x → Pv i H → g x (wipe σ vs) H fun σ2 H2 => wipe σ2 vs = wipe σ vs ∧ te σ2 H2 fun y H3 => ∃ b, y = .bl b ∧ (b ≠ brk → Pv (i + 1) H3) ∧ (b = brk → Q (.bl brk) H3)) (hd : ∀ H, Pv xs.length H → Q (.bl (!brk)) H) :
    ∃ W : Nat → Nat → Hp → Prop, (∃ m, W 0 m H1) ∧ ∀ i m H, W i m H → ((Itt K a).stop i H ∧ Q (.bl (!brk)) H) ∨ ((Itt K a).go i H ∧ ∃ Nx : Hp → Prop, (∀ H', Nx H' → ∃ m', m' < m ∧ W (i + 1) m' H') ∧
      ∀ x H', (Itt K a).yld i H x H' → g x (wipe σ vs) H' fun σ2 H2 => wipe σ2 vs = wipe σ vs ∧ te σ2 H2 fun y H3 => ∃ b, y = .bl b ∧ (b ≠ brk → Nx H3) ∧ (b = brk → Q (.bl brk) H3)) := by
  refine ⟨fun i m H => m = xs.length - i ∧ i ≤ xs.length ∧ Pv i H, ⟨xs.length, (Nat.sub_zero _).symm, Nat.zero_le _, h0⟩, fun i m H hW => ?_⟩
  obtain ⟨hm, hi, p⟩ := hW
  subst hm
  have q := hl i H hi p
  by_cases hlt : i < xs.length
  · refine .inr ⟨⟨xs, xs[i], q, List.getElem?_eq_getElem hlt⟩, Pv (i + 1), fun H' p' => ⟨xs.length - (i + 1), by omega, rfl, hlt, p'⟩, fun x H' y => ?_⟩
    obtain ⟨e, y⟩ := y
    subst e
    exact hs i x _ (y xs q) p
  · have e : i = xs.length := by omega
    subst e
    exact .inl ⟨⟨xs, q, Nat.le_refl _⟩, hd H p⟩
/-- .. over a range -/
theorem gen_range {lo : Int} {n : Nat} {g : TG} {te : TE} {vs : List Nat} {σ : L2.St} {H1 : Hp} {brk : Bool} {Q : VK} (Pv : Nat → Hp → Prop) (h0 : Pv 0 H1)
    (hs : ∀ i H, i < n → Pv i H → g (.int (lo + i)) (wipe σ vs) H fun σ2 H2 => wipe σ2 vs = wipe σ vs ∧ te σ2 H2 fun y H3 => ∃ b, y = .bl b ∧ (b ≠ brk → Pv (i + 1) H3) ∧ (b = brk → Q (.bl brk) H3)) (hd : ∀ H, Pv n H → Q (.bl (!brk)) H) :
    ∃ W : Nat → Nat → Hp → Prop, (∃ m, W 0 m H1) ∧ ∀ i m H, W i m H → ((Itr lo n).stop i H ∧ Q (.bl (!brk)) H) ∨ ((Itr lo n).go i H ∧ ∃ Nx : Hp → Prop, (∀ H', Nx H' → ∃ m', m' < m ∧ W (i + 1) m' H') ∧
      ∀ x H', (Itr lo n).yld i H x H' → g x (wipe σ vs) H' fun σ2 H2 => wipe σ2 vs = wipe σ vs ∧ te σ2 H2 fun y H3 => ∃ b, y = .bl b ∧ (b ≠ brk → Nx H3) ∧ (b = brk → Q (.bl brk) H3)) := by
  refine ⟨fun i m H => m = n - i ∧ i ≤ n ∧ Pv i H, ⟨n, (Nat.sub_zero _).symm, Nat.zero_le _, h0⟩, fun i m H hW => ?_⟩
  obtain ⟨hm, hi, p⟩ := hW
  subst hm
  by_cases hlt : i < n
  · refine .inr ⟨hlt, Pv (i + 1), fun H' p' => ⟨n - (i + 1), by omega, rfl, hlt, p'⟩, fun x H' y => ?_⟩
    obtain ⟨e, y⟩ := y
    subst e y
    exact hs i _ hlt p
  · have e : i = n := by omega
    subst e
    exact .inl ⟨Nat.le_refl _, hd H p⟩
end GXX
namespace GXX
open PySem PySem.Spec PyProof.Rows L2 GenW GxR
/-- a def whose code object's place is known -/
structure FunC (K : PySem.W.Frag) (x qual : Str) (st : Stmt) (f : Addr) (fd : FuncData) (c : Addr) : Prop where
  ex : ∃ (oc : Value) (od : Option Addr) (kV doc pm : Value) (an : Option Addr) (ct : Value) (osl : Array (Option Value)),
    fd = PySem.W.fnOf x qual (defArgs st) (defBody st) (defScope st) .none kV doc pm an (.ref c) ct ∧ K.lookup f = some ⟨oc, od, .func fd, osl⟩ ∧ PySem.W.codeIn K (.ref c) qual = true
section
variable {P : Program} {w : World} {K : PySem.W.Frag} {mg : Str → Option Value} {base : Heap}
theorem FunC.ok {x qual : Str} {st : Stmt} {f c : Addr} {fd : FuncData} {N ps : List Str} {k : Nat} {sp : Sp} (F : FunC K x qual st f fd c) (S : FnScope N ps (defScope st)) (len : ∀ vs H Q E, sp vs H Q E → vs.length = ps.length)
    (hbody : ∀ (A : Around) (outer : List Env) (s : Shared) (H : Hp) (vs : List V) (Q : VK) (E : XK), Room k (A.deeper (envOfC qual (defScope st) s.heap.objs.size f (.ref c))) → sp vs H Q E →
      ∃ t, PSs (cxOf CX0 P w K mg base N qual (defScope st) f (.ref c) A outer s H E).nox (defBody st) t ∧ t { nx := fun _ H' => Q .non H', rt := Q } (start N vs) H) : FnOk P w K mg base CX0 (k + 1) f fd ps sp := by
  obtain ⟨oc, od, kV, doc, pm, an, ct, osl, e, lk, hcd⟩ := F.ex
  subst e
  refine fn_of lk hcd S len fun A outer s H vs Q E hr hsp => ?_
  obtain ⟨t, h1, h2⟩ := hbody A outer s H vs Q E hr hsp
  exact ⟨t, h1.nox, h2⟩
end
/-- the defs of the top with their code objects, whose tables are empty -/
def DefTabs (q : Program) (mg : Str → Option Value) (h : Heap) : Prop := ∀ d ∈ PyProof.Rows.recsOf q, ∃ a o fd c P, mg d.name = some (.ref a) ∧ h.get? a = some o ∧ o.data = .func fd ∧ fd.code = .ref c ∧ h.IsCode c P #[] ∧ h.TableAt c P #[]
theorem lookup_mem {α : Type} {a : Nat} {x : α} : ∀ {l : List (Nat × α)}, l.lookup a = some x → (a, x) ∈ l
  | (b, y) :: r, h => by
    rw [List.lookup_cons] at h
    by_cases e : a = b
    · rw [beq_iff_eq.mpr e] at h
      cases h
      rw [e]
      exact List.mem_cons_self
    · rw [beq_eq_false_iff_ne.mpr e] at h
      exact List.mem_cons_of_mem _ (lookup_mem h)
/-- no empty table stands in the written part -/
def noTab (K : PySem.W.Frag) : Bool := K.all fun q => match q.2.data with
  | .fields vs => vs.size != 0
  | _ => true
theorem noTab_lookup {K : PySem.W.Frag} {h : Heap} {P : Addr} (X : K.In h) (n : noTab K = true) (hp : h.get? P = some { cls := .none, data := .fields #[] }) : K.lookup P = none := by
  cases e : K.lookup P with
  | none => rfl
  | some o =>
    have e1 := X P o e
    rw [hp] at e1
    cases e1
    have m : (P, ({ cls := .none, data := .fields #[] } : Obj)) ∈ K := lookup_mem e
    have := List.all_eq_true.mp n _ m
    simp at this
/-- one def's code and table -/
theorem tab_one {q : Program} {K : PySem.W.Frag} {mg : Str → Option Value} {h : Heap} {x : Str} {f : Addr} {o : Obj} {fd : FuncData} (D : DefTabs q mg h) (X : K.In h) (n : noTab K = true) (hrec : ((PyProof.Rows.recsOf q).any fun e => e.name == x) = true) (hm : mg x = some (.ref f))
    (l : K.lookup f = some o) (hd : o.data = .func fd) : ∃ c P, fd.code = .ref c ∧ h.get? P = some { cls := .none, data := .fields #[] } ∧ K.lookup P = none ∧ PySem.W.CodeHd h c P := by
  obtain ⟨d, hd1, hd2⟩ := List.any_eq_true.mp hrec
  have hd2 : d.name = x := beq_iff_eq.mp hd2
  obtain ⟨a, o2, fd2, c, P, h1, h2, h3, h4, h5, h6⟩ := D d hd1
  rw [hd2, hm] at h1
  cases h1
  have h7 := X _ _ l
  rw [h7] at h2
  cases h2
  rw [hd] at h3
  cases h3
  exact ⟨c, P, h4, h6.2, noTab_lookup X n h6.2, PySem.W.CodeHd.of h5 h6⟩
theorem walk_tabs {l : PySem.W.OpenLaw} {n k : Nat} {q : Program} {loose : List Str} {XP : (Str → Option Value) → Heap → Prop} {YP : World → Heap → Prop} {d : DefRec} {K : Params → PySem.W.Frag} {CX : World → CXT} {x : Str}
    (hn : l.most = some n) (hn2 : n ≤ sizeLine) (hdf : d.params.defaults = []) (hr : Room k callerA) (hY : ∀ (w : World) (h : Heap), YP w h → (K w.params).In h)
    (F : ∀ (w : World) (mg : Str → Option Value) (fa : Addr) (h : Heap), YP w h → (K w.params).In h → h.Ns mainGlobals mg → mg d.name = some (.ref fa) → DefTabs q mg h → LamX.LawAtS l w (K w.params) (CX w) k n x mg fa h)
    (hCX : ∀ (w : World) (H : Hp) (s : Shared) (e : Value) (s' : Shared), CX w [] H s (fun _ _ _ => False) e s' → False) :
    PySem.W.WalkO q loose XP YP l.row.toRowW d [] (fun f vs => PySem.call f vs) := by
  refine Att.attach_callB hn hdf fun w s₀ s1 mg mb fa o pm cd doc a vs ns G Y ho hd hcd hmg hobj hints hlen hbits hg => ?_
  obtain ⟨fd, cs, sp, t1, t2, t3, t4, t5, t6⟩ := F w mg fa _ Y (hY w _ Y) G.T.g hmg G.T.tab
  exact LamX.law_callTs (hY w _ Y) G.T.g G.T.b G.T.builtins G.T.nolimit hg t1 t2 t3 G.T.bmain hobj hints (Nat.le_trans hlen hn2) hr t6 t4 (fun H hH hS => t5 H a ns hlen hbits hH hS) fun H e s' => hCX w H s1 e s'
end GXX
/-! ## ranges kept in a name; a datum in a list of data -/
namespace GXX
open PySem PySem.Spec PyProof.Rows L2
section
variable {X : Cx} {tg : Expr}
theorem cr_range1 : CallR X (.type "range") (fun vs H Q => ∃ j, vs = [V.int j] ∧ ∀ p, H p = none → Q (.ref p) (upd H p (.rng 0 j))) := by
  intro pins s σ H vs us Q I r h
  obtain ⟨j, rfl, q⟩ := h
  cases r with
  | cons r rr =>
    cases rr
    obtain ⟨t, rfl⟩ := r
    refine call_range_1 ⟨.ref s.heap.objs.size, upd H s.heap.objs.size (.rng 0 j), I.laid (t' := s.toks + 1 + 1) (fun b o e => Heap.get?_push_of_some _ e) (Nat.le_refl _) ?_, rfl, q _ (I.hok.fresh (Nat.le_refl _))⟩
    exact ⟨_, t, _, Heap.get?_push_size _ rfl⟩
/-- over a range object that stands -/
def iRngV (tl : TE) : TI := fun σ H R => tl σ H fun x H1 => ∃ a lo hi, x = .ref a ∧ H1 a = some (.rng lo hi) ∧ (-(2 ^ 62) ≤ lo ∧ lo < 2 ^ 62 ∧ -(2 ^ 62) ≤ hi ∧ hi < 2 ^ 62) ∧ R (Itr lo (hi - lo).toNat) H1
theorem pi_rngV {l : Expr} {tl : TE} (hl : PE X l tl) : PI X tg l (iRngV tl) := by
  refine ⟨fun pins s σ H R I h => ?_⟩
  refine thn (hl.run pins s σ H _ I h) fun v s1 ⟨x, H1, I1, r1, q1⟩ => ?_
  obtain ⟨a, lo, hi, e, hq, ⟨h1, h2, h3, h4⟩, q⟩ := q1
  subst e
  cases r1
  obtain ⟨t, u, v, ho⟩ := I1.hok a _ hq
  refine wpAny_pyIter_range (show IsRange s1.heap a lo hi 1 t u v from ho) (small_one h1 h2 h3 h4) ?_
  refine ⟨s1.heap.objs.size, [s1.heap.objs.size], _, _, H1, rfl, I1.kept (t' := s1.toks) fun b o e => Heap.get?_push_of_some _ e, turn_range _ lo (hi - lo).toNat, ?_, fun b hb => ?_, q⟩
  · have e1 : lo + ((0 : Nat) : Int) * 1 = lo := by simp
    have e2 : (((hi - lo).toNat : Nat) : Int) - ((0 : Nat) : Int) = Builtin.Range.rangeSize lo hi 1 := by rw [rangeSize_one]; split <;> omega
    show IsRangeIter _ _ (lo + ((0 : Nat) : Int) * 1) ((((hi - lo).toNat : Nat) : Int) - ((0 : Nat) : Int)) 1
    rw [e1, e2]
    exact Heap.get?_push_size _ rfl
  · have e : b = s1.heap.objs.size := by simpa using hb
    subst e
    exact I1.fpOk (Nat.le_refl _) (I1.hok.fresh (Nat.le_refl _))
end
end GXX
/-! ## t[::-1], t a tuple -/
namespace GXX
open PySem PySem.Spec PyProof.Rows L2
section
variable {prog : Program} {w : World} {A : Around} {E : Value → Shared → Prop} {s : Shared}
theorem fm_congr {α β : Type} {f g : α → Option β} : ∀ {l : List α}, (∀ a ∈ l, f a = g a) → l.filterMap f = l.filterMap g
  | [], _ => rfl
  | a :: l, h => by
    rw [List.filterMap_cons, List.filterMap_cons, h a List.mem_cons_self, fm_congr fun b hb => h b (List.mem_cons_of_mem _ hb)]
theorem rev_pick (xs : Array Value) : ((List.range xs.size).filterMap fun (m : Nat) => xs[(((xs.size : Int) - 1) + (m : Int) * -1).toNat]?).toArray = xs.toList.reverse.toArray := by
  have h := PySem.W.krv_pick xs
  unfold slicePick at h
  rw [PySem.W.krv_bounds] at h
  have h2 : ((sliceRange ((xs.size : Int) - 1) (-1) (-1)).filterMap (xs[·]?)).toArray = xs.toList.reverse.toArray := h
  rw [PySem.W.krv_sliceRange, List.filterMap_map] at h2
  rw [← h2]
  congr 1
  refine fm_congr fun k hk => ?_
  have := List.mem_range.mp hk
  show xs[(((xs.size : Int) - 1) + (k : Int) * -1).toNat]? = xs[xs.size - 1 - k]?
  congr 1
  omega
theorem adjust_rev (n : Nat) : Builtin.Slice.sliceAdjust none none (-1) (n : Int) = ((n : Int) - 1, -1) := by
  unfold Builtin.Slice.sliceAdjust
  simp
theorem places_rev (n : Nat) : Builtin.Slice.slicePlaces ((n : Int) - 1) (-1) (-1) = n := by
  unfold Builtin.Slice.slicePlaces
  have h1 : ¬ ((-1 : Int) > 0) := by decide
  simp only [h1, if_false]
  by_cases h : (n : Int) - 1 > -1
  · rw [if_pos h, show (- -1 : Int) = 1 by decide, Int.ediv_one]
    omega
  · rw [if_neg h]
    omega
theorem sliceApplied_rev {sl : Addr} {vl vu vs : Value} {n : Nat} {Q : Int × Int × Nat → Shared → Prop} (hs : s.heap.IsSliceOf sl vl vu vs) (pl : IsPart vl none) (pu : IsPart vu none) (ps : IsPart vs (some (-1)))
    (h : Q ((n : Int) - 1, -1, n) s) : wpAny (model prog w) A (Builtin.Slice.sliceApplied (.ref sl) (pure (n : Int))) Q E s := by
  obtain ⟨os, hos, hcs, hds⟩ := id hs
  unfold Builtin.Slice.sliceApplied Builtin.Slice.sliceFields
  refine wpAny_bind (wpAny_bind (wpAny_field hos hds (x := vl) rfl (wpAny_bind (wpAny_field hos hds (x := vu) rfl (wpAny_bind (wpAny_field hos hds (x := vs) rfl (wpAny_pure ?_)))))))
  refine wpAny_bind (HT.slicePart_ ps ?_)
  show wpAny _ _ (if ((-1 : Int) == 0) = true then _ else _) _ _ s
  rw [if_neg (by decide)]
  refine wpAny_bind (HT.slicePart_ pl (wpAny_bind (HT.slicePart_ pu (wpAny_bind (wpAny_pure ?_)))))
  show wpAny _ _ (match Builtin.Slice.sliceAdjust none none (-1) (n : Int) with | (lo, hi) => pure (lo, (-1 : Int), Builtin.Slice.slicePlaces lo hi (-1))) _ _ s
  rw [adjust_rev n]
  show wpAny _ _ (pure ((n : Int) - 1, (-1 : Int), Builtin.Slice.slicePlaces ((n : Int) - 1) (-1) (-1))) _ _ s
  rw [places_rev]
  exact wpAny_pure h
theorem getItem_tuple_rev {t sl : Addr} {items : Array Value} {vl vu vs : Value} {Q : Value → Shared → Prop} (ht : IsTup s.heap t items) (hs : s.heap.IsSliceOf sl vl vu vs) (pl : IsPart vl none) (pu : IsPart vu none) (ps : IsPart vs (some (-1)))
    (h : Q (.ref s.heap.objs.size) { s with heap := s.heap.push { cls := .type "tuple", data := .seq items.toList.reverse.toArray } })
    (hsz : items.size ≤ sizeLine) : wpAny (model prog w) A (getItem (.ref t) (.ref sl)) Q E s := by
  have htake : sizeOk (.seq items.toList.reverse.toArray) := by
    show items.toList.reverse.toArray.size ≤ sizeLine
    rw [List.size_toArray, List.length_reverse, Array.length_toList]
    omega
  obtain ⟨os, hos, hcs, hds⟩ := id hs
  have hTs : s.TypeIs (.ref sl) "slice" := ⟨os, hos, hcs⟩
  unfold getItem
  try with_reducible refine wpAny_holding ?_
  first | refine wpAny_bind (wpAny_pure ?_) | skip
  refine wpAny_bind (wpAny_sequenceKey ht.typeIs (by decide) ?_)
  refine wpAny_bind (wpAny_callSpecial?_slot (name := Str.ofString "__getitem__") ht.typeIs PyProof.Rows.slot_tuple_getitem
    (wpAny_call_entry PyProof.Rows.slot_tuple_getitem ht.typeIs entry_tuple_getitem ?_ (args_tuple_getitem _ _)))
  show wpAny _ _ (Builtin.Tuple.tupleItemsOf (.ref t) >>= _) _ _ s
  refine wpAny_bind (tupleItemsOf_ ht ?_)
  refine wpAny_bind (wpAny_typeOf hTs ?_)
  rw [if_pos (by decide)]
  refine wpAny_bind (sliceApplied_rev hs pl pu ps ?_)
  show wpAny _ _ (if (((items.size : Int) - 1) == 0 && (-1 : Int) == 1 && items.size == items.size) = true then _ else _) _ _ s
  rw [if_neg (by simp), rev_pick]
  first
    | exact wpAny_bind (m := Builtin.Tuple.tupleExact _) (wpAny_newObj_type (wpAny_pure ⟨_, rfl, wpAny_pure h⟩) htake)
    | exact wpAny_bind (m := Builtin.Tuple.tupleExact _) (wpAny_newObj_type (wpAny_bind (wpAny_pure (wpAny_pure ⟨_, rfl, wpAny_pure h⟩))) htake)
    | exact wpAny_bind (wpAny_bind (m := Builtin.Tuple.tupleExact _) (wpAny_newObj_type (wpAny_pure (wpAny_pure ⟨_, rfl, wpAny_pure h⟩)) htake))
    | exact wpAny_bind (wpAny_bind (m := Builtin.Tuple.tupleExact _) (wpAny_newObj_type (wpAny_pure ⟨_, rfl, wpAny_pure h⟩) htake))
end
section
variable {X : Cx}
def tRevT (K : PySem.W.Frag) (te : TE) : TE := fun σ H Q => te σ H fun x H1 => ∃ a xs, x = .ref a ∧ SqT K H1 a xs ∧ ∀ p, H1 p = none → Q (.ref p) (upd H1 p (.tup xs.reverse))
theorem pe_revT {e : Expr} {te : TE} {k : Nat} {p1 p2 p3 pos : Pos} (he : PE X e te) : PE X (.Subscript e (.Slice none none (some (.UnaryOp .USub (.Constant (.int 1) k p1) p2)) p3) pos) (tRevT X.K te) := by
  refine ⟨fun pins s σ H Q I h => ?_⟩
  refine Subscript_ (thn (he.run pins s σ H _ I h) fun v s1 ⟨x, H1, I1, r1, q1⟩ => ?_)
  obtain ⟨a, xs, ex, hx, q⟩ := q1
  subst ex
  cases r1
  have hst : PO X (some (.UnaryOp .USub (.Constant (.int 1) k p1) p2)) (tPart (tUn (rU fun i => .int (-i)) (tC (.int 1)))) := po_some (pe_un un_neg pe_int)
  refine wpAny_Slice (thn (po_none.run pins s1 σ H1 (fun o H2 => o = none ∧ H2 = H1) I1 ⟨rfl, rfl⟩) fun vl s2 ⟨l, H2, I2, pl, el, e2⟩ => ?_)
  subst el e2
  refine thn (po_none.run pins s2 σ H2 (fun o H3 => o = none ∧ H3 = H2) I2 ⟨rfl, rfl⟩) fun vu s3 ⟨u, H3, I3, pu, eu, e3⟩ => ?_
  subst eu e3
  refine thn (hst.run pins s3 σ H3 (fun o H4 => o = some (-1) ∧ H4 = H3) I3 ⟨1, rfl, -1, rfl, rfl, rfl⟩) fun vs s4 ⟨o, H4, I4, ps, eo, e4⟩ => ?_
  subst eo e4
  have I5 : Inv X pins σ H4 { s4 with heap := s4.heap.push { cls := .type "slice", data := .fields #[vl, vu, vs] } } := I4.kept (t' := s4.toks) fun b ob q => Heap.get?_push_of_some _ q
  obtain ⟨its, r, ht, hz⟩ := I5.tuple hx
  have hlen := r.length
  show wpAny (model X.prog X.w) X.A (subscriptTail e (.Slice none none (some (.UnaryOp .USub (.Constant (.int 1) k p1) p2)) p3) (.ref a) (.ref s4.heap.objs.size)) (EP X pins σ Q) X.xe { s4 with heap := s4.heap.push { cls := .type "slice", data := .fields #[vl, vu, vs] } }
  refine tail_any (ops := [.ref a, .ref s4.heap.objs.size]) ht.typeIs (PyProof.Rows.slot_tuple_getitem.lookup) ?_ (by with_unfolding_all rfl)
  refine getItem_tuple_rev ht (Heap.IsSliceOf.new _ vl vu vs) pl pu ps ?_ (by rw [List.size_toArray]; omega)
  refine ⟨.ref _, _, I5.laid (t' := s4.toks) (o := .tup xs.reverse) (fun b ob q => Heap.get?_push_of_some _ q) (Nat.le_refl _) ?_, rfl, q _ (I5.hok.fresh (Nat.le_refl _))⟩
  exact ⟨by rw [List.length_reverse]; exact hz, _, r.reverse, IsTup.new _ _⟩
end
end GXX
/-! ## min and max of a tuple of integers -/
namespace GXX
open PySem PySem.Spec PyProof.Rows L2
section
variable {X : Cx}
def rMinT (K : PySem.W.Frag) : List V → Hp → VK → Prop := fun vs H Q => ∃ (a : Addr) (n : Int) (ns : List Int), vs = [V.ref a] ∧ SqT K H a ((n :: ns).map V.int) ∧ Q (.int (ns.foldl min n)) H
def rMaxT (K : PySem.W.Frag) : List V → Hp → VK → Prop := fun vs H Q => ∃ (a : Addr) (n : Int) (ns : List Int), vs = [V.ref a] ∧ SqT K H a ((n :: ns).map V.int) ∧ Q (.int (ns.foldl max n)) H
theorem ints_dp {K : PySem.W.Frag} {H : Hp} : ∀ ns : List Int, DpAll K H (ns.map V.int) (ns.map PyData.int)
  | [] => .nil
  | n :: ns => .cons (.int n) (ints_dp ns)
theorem ints_depth : ∀ ns : List Int, PyData.depthAll (ns.map PyData.int) = 0
  | [] => by simp [PyData.depthAll]
  | n :: ns => by
    rw [List.map_cons, PyData.depthAll, ints_depth ns]
    simp [PyData.depth]
theorem ints_alike (ns : List Int) : PySem.W.AlikeAll (ns.map PyData.int) := by
  refine ⟨fun x hx y hy => ?_, fun x hx => ?_⟩
  · obtain ⟨i, _, rfl⟩ := List.mem_map.mp hx
    obtain ⟨j, _, rfl⟩ := List.mem_map.mp hy
    simp [PySem.W.alike]
  · obtain ⟨i, _, rfl⟩ := List.mem_map.mp hx
    exact fun z => nomatch z
theorem cr_minT (hc : X.calm = true) (hu : X.A.units + 2 < cLine) : CallR X (.builtin "min") (rMinT X.K) := by
  intro pins s σ H vs us Q I r h
  obtain ⟨a, n, ns, rfl, hs, q⟩ := h
  obtain ⟨its, rv, ht, hz⟩ := I.tuple hs
  obtain ⟨as, ra⟩ := Dp.readsAll I _ _ _ (ints_dp (n :: ns)) rv
  rw [Vals.ref1 r]
  refine PySem.W.min_tuple_data (I.ok.hd hc) ht ra (ints_alike (n :: ns)) ?_ fun i v h' tk bs hv hr hk => ?_
  · have := ints_depth (n :: ns)
    rw [List.map_cons] at this
    rw [this]
    omega
  · rw [PySem.W.minD_ints] at hr
    cases hr
    exact ⟨.int _, H, I.kept hk, ⟨_, rfl⟩, q⟩
theorem cr_maxT (hc : X.calm = true) (hu : X.A.units + 2 < cLine) : CallR X (.builtin "max") (rMaxT X.K) := by
  intro pins s σ H vs us Q I r h
  obtain ⟨a, n, ns, rfl, hs, q⟩ := h
  obtain ⟨its, rv, ht, hz⟩ := I.tuple hs
  obtain ⟨as, ra⟩ := Dp.readsAll I _ _ _ (ints_dp (n :: ns)) rv
  rw [Vals.ref1 r]
  refine PySem.W.max_tuple_data (I.ok.hd hc) ht ra (ints_alike (n :: ns)) ?_ fun i v h' tk bs hv hr hk => ?_
  · have := ints_depth (n :: ns)
    rw [List.map_cons] at this
    rw [this]
    omega
  · rw [PySem.W.maxD_ints] at hr
    cases hr
    exact ⟨.int _, H, I.kept hk, ⟨_, rfl⟩, q⟩
end
end GXX

/-! ## what the program works with, as plain values: D; how they stand in the heap: R; what a piece of code keeps: Ext -/
namespace Z
open PySem PySem.Spec L2 GxR
open PyProof.Rows hiding St
inductive D where
  | non | bl (b : Bool) | int (i : Int) | str (n : Nat) | tup (l : List D) | lst (l : List D) | cell (n : Nat) | scr (l : List Int) | rng (lo hi : Int) | fn (a : Addr) | dic (l : List (Int × Nat)) | ft (l : List D)
def wds : List String := ["all", "some", "some not", "no", "as many", "fewer", "verb", "self", "one", "both", "mark", "clash", "premise", "pair", "yes", "free",
  "signature", "premises", "sentence", "first", "second", "index", "order", "model", "noun", "groups", "lines", "fact", "claim", "kind", "many", "conflict",
  "numbers", "bad", "fine", "other", "entailed", "refuted", "open", "no model", "every", "most", "any", "none", "x", "0", "1", "3", "", "negation", "voice", "form",
  "same", "count", "nth", "renamed", "expanded", "holds", "false", "total", "witness", "restricted", "tidied", "All", "21", "True", "held", "value", "verbs", "nouns"]
def txts : List Str := wds.map Str.ofString
def txt (n : Nat) : Str := match wds[n]? with
  | some s => Str.ofString s
  | none => Str.ofString ""
theorem txt_ok_all : (List.range 70).all (fun n => PyData.strOk (txt n)) = true := by decide +kernel
theorem txt_ne_all : (List.range 70).all (fun n => (List.range 70).all fun m => (n == m) || !(decide (txt n = txt m))) = true := by decide +kernel
theorem txt_ok {n : Nat} (h : n < 70) : PyData.strOk (txt n) = true := List.all_eq_true.mp txt_ok_all n (List.mem_range.mpr h)
theorem txt_inj {n m : Nat} (h : n < 70) (h' : m < 70) : txt n = txt m ↔ n = m := by
  refine ⟨fun e => ?_, fun e => by rw [e]⟩
  have := List.all_eq_true.mp (List.all_eq_true.mp txt_ne_all n (List.mem_range.mpr h)) m (List.mem_range.mpr h')
  simp only [e, decide_true, Bool.not_true, Bool.or_false, beq_iff_eq] at this
  exact this
theorem txt_dec {n m : Nat} (h : n < 70) (h' : m < 70) : decide (txt n = txt m) = (n == m) := by
  rw [Bool.eq_iff_iff]
  simp [txt_inj h h']
/-- keys of a dict kept in a name: 0, 1, .. for ints, -1, -2, .. for words -/
def keyI (i : Int) : Key := if i < 0 then Sum.inr (txt (-i - 1).toNat) else Sum.inl i
def DicOk (kvs : List (Key × V)) (l : List (Int × Nat)) : Prop := (∀ q ∈ l, q.2 < 70 ∧ valV kvs (keyI q.1) = some (.str (txt q.2))) ∧ ∀ i : Int, -71 < i → (∀ q ∈ l, q.1 ≠ i) → valV kvs (keyI i) = none
theorem keyI_inj {i j : Int} (hi : -71 < i) (hj : -71 < j) (e : keyI i = keyI j) : i = j := by
  unfold keyI at e
  split at e <;> split at e
  · have := (txt_inj (by omega) (by omega)).mp (Sum.inr.inj e)
    omega
  · cases e
  · cases e
  · exact Sum.inl.inj e
theorem keyI_pos {i : Int} (h : 0 ≤ i) : keyI i = Sum.inl i := if_neg (by omega)
theorem keyI_w (n : Nat) : keyI (-(n : Int) - 1) = Sum.inr (txt n) := by
  unfold keyI
  rw [if_pos (by omega)]
  congr 2
  omega
inductive Own where
  | slot (i : Nat) | cell (n : Nat) | far
/-- who may write at an address -/
abbrev MM := Addr → Option Own
/-- a list of the script's -/
def StL (K : PySem.W.Frag) (M : MM) (H : Hp) (a : Addr) (xs : List V) : Prop := (M a = none ∧ Rd H a (.lst xs)) ∨ SqL K (fun _ => none) a xs
/-- a tuple that is read -/
def StT (K : PySem.W.Frag) (M : MM) (H : Hp) (a : Addr) (xs : List V) : Prop := (M a = none ∧ Rd H a (.tup xs)) ∨ SqT K (fun _ => none) a xs
/-- .. of which it is known that it has no dict -/
def FtT (K : PySem.W.Frag) (M : MM) (H : Hp) (a : Addr) (xs : List V) : Prop := (M a = none ∧ ∃ o, H a = some (.frz o (.tup xs)) ∧ o.cls = .type "tuple" ∧ o.dict = none) ∨
  ∃ (o : Obj) (its : Array Value) (n : Nat), K.lookup a = some o ∧ o.cls = .type "tuple" ∧ o.dict = none ∧ o.data = .seq its n ∧ its.size ≤ sizeLine ∧ Vals xs its.toList
mutual
inductive R (K : PySem.W.Frag) (M : MM) (H : Hp) : V → D → Prop
  | non : R K M H .non .non
  | bl (b : Bool) : R K M H (.bl b) (.bl b)
  | int (i : Int) : R K M H (.int i) (.int i)
  | str {n : Nat} : n < 70 → R K M H (.str (txt n)) (.str n)
  | tup {a : Addr} {xs : List V} {ds : List D} : StT K M H a xs → RA K M H xs ds → R K M H (.ref a) (.tup ds)
  | lst {a : Addr} {xs : List V} {ds : List D} : M a = none → H a = some (.lst xs) → RA K M H xs ds → R K M H (.ref a) (.lst ds)
  | cell {a : Addr} {n : Nat} : M a = some (.cell n) → R K M H (.ref a) (.cell n)
  | scr {a : Addr} {l : List Int} : StL K M H a (l.map V.int) → R K M H (.ref a) (.scr l)
  | rng {a : Addr} {lo hi : Int} : M a = none → H a = some (.rng lo hi) → R K M H (.ref a) (.rng lo hi)
  | fn (a : Addr) : R K M H (.ref a) (.fn a)
  | dic {a : Addr} {kvs : List (Key × V)} {l : List (Int × Nat)} : M a = none → H a = some (.dK kvs) → DicOk kvs l → R K M H (.ref a) (.dic l)
  | ft {a : Addr} {xs : List V} {ds : List D} : FtT K M H a xs → RA K M H xs ds → R K M H (.ref a) (.ft ds)
inductive RA (K : PySem.W.Frag) (M : MM) (H : Hp) : List V → List D → Prop
  | nil : RA K M H [] []
  | cons {v : V} {vs : List V} {d : D} {ds : List D} : R K M H v d → RA K M H vs ds → RA K M H (v :: vs) (d :: ds)
end
/-- what data lean on is kept -/
structure Ext0 (M : MM) (H : Hp) (M' : MM) (H' : Hp) : Prop where
  keep : ∀ a o, H a = some o → M a = none → (∀ ps, o ≠ .tbl ps) → H' a = some o ∧ M' a = none
  cell : ∀ a n, M a = some (.cell n) → M' a = some (.cell n)
/-- what a piece of code keeps -/
structure Ext (M : MM) (H : Hp) (M' : MM) (H' : Hp) : Prop extends Ext0 M H M' H' where
  tab : ∀ b, TabG H b → TabG H' b
  far : ∀ a, M a = some .far → M' a = some .far ∧ H' a = H a
  dom : ∀ a o, H a = some o → (∀ ps, o ≠ .tbl ps) → ∃ o', H' a = some o' ∧ ∀ ps, o' ≠ .tbl ps
theorem Ext.refl (M : MM) (H : Hp) : Ext M H M H := ⟨⟨fun _ _ h m _ => ⟨h, m⟩, fun _ _ h => h⟩, fun _ h => h, fun _ h => ⟨h, rfl⟩, fun _ o h n => ⟨o, h, n⟩⟩
theorem Ext0.trans {M M1 M2 : MM} {H H1 H2 : Hp} (a : Ext0 M H M1 H1) (b : Ext0 M1 H1 M2 H2) : Ext0 M H M2 H2 where
  keep := fun c o h m n => let ⟨h1, m1⟩ := a.keep c o h m n; b.keep c o h1 m1 n
  cell := fun c n h => b.cell c n (a.cell c n h)
theorem Ext.trans {M M1 M2 : MM} {H H1 H2 : Hp} (a : Ext M H M1 H1) (b : Ext M1 H1 M2 H2) : Ext M H M2 H2 where
  toExt0 := a.toExt0.trans b.toExt0
  tab := fun c h => b.tab c (a.tab c h)
  far := fun c h => let ⟨m1, e1⟩ := a.far c h; let ⟨m2, e2⟩ := b.far c m1; ⟨m2, e2.trans e1⟩
  dom := fun c o h n => let ⟨o1, h1, n1⟩ := a.dom c o h n; b.dom c o1 h1 n1
section
variable {K : PySem.W.Frag} {M M' : MM} {H H' : Hp}
theorem Ext0.stt (e : Ext0 M H M' H') {a : Addr} {xs : List V} (h : StT K M H a xs) : StT K M' H' a xs := by
  rcases h with ⟨m, h | ⟨o, h⟩⟩ | h
  · obtain ⟨h1, m1⟩ := e.keep a _ h m (fun _ z => nomatch z)
    exact .inl ⟨m1, .inl h1⟩
  · obtain ⟨h1, m1⟩ := e.keep a _ h m (fun _ z => nomatch z)
    exact .inl ⟨m1, .inr ⟨o, h1⟩⟩
  · exact .inr h
theorem Ext0.stl (e : Ext0 M H M' H') {a : Addr} {xs : List V} (h : StL K M H a xs) : StL K M' H' a xs := by
  rcases h with ⟨m, h | ⟨o, h⟩⟩ | h
  · obtain ⟨h1, m1⟩ := e.keep a _ h m (fun _ z => nomatch z)
    exact .inl ⟨m1, .inl h1⟩
  · obtain ⟨h1, m1⟩ := e.keep a _ h m (fun _ z => nomatch z)
    exact .inl ⟨m1, .inr ⟨o, h1⟩⟩
  · exact .inr h
theorem Ext0.ftt (e : Ext0 M H M' H') {a : Addr} {xs : List V} (h : FtT K M H a xs) : FtT K M' H' a xs := by
  rcases h with ⟨m, o, h, c, d⟩ | h
  · obtain ⟨h1, m1⟩ := e.keep a _ h m (fun _ z => nomatch z)
    exact .inl ⟨m1, o, h1, c, d⟩
  · exact .inr h
theorem FtT.st {a : Addr} {xs : List V} (h : FtT K M H a xs) : StT K M H a xs := by
  rcases h with ⟨m, o, h, _, _⟩ | ⟨o, its, n, h1, h2, _, h4, h5, h6⟩
  · exact .inl ⟨m, .inr ⟨o, h⟩⟩
  · exact .inr (.inr ⟨o, its, n, h1, h2, h4, h5, h6⟩)
theorem Ext0.r_ra (e : Ext0 M H M' H') : (∀ v d, R K M H v d → R K M' H' v d) ∧ ∀ vs ds, RA K M H vs ds → RA K M' H' vs ds := by
  refine ⟨fun v d h => ?_, fun vs ds h => ?_⟩
  · exact R.rec (motive_1 := fun v d _ => R K M' H' v d) (motive_2 := fun vs ds _ => RA K M' H' vs ds) .non .bl .int .str (fun s _ ih => .tup (e.stt s) ih)
      (fun m h _ ih => let ⟨h1, m1⟩ := e.keep _ _ h m (fun _ z => nomatch z); .lst m1 h1 ih) (fun m => .cell (e.cell _ _ m))
      (fun h => .scr (e.stl h)) (fun m h => let ⟨h1, m1⟩ := e.keep _ _ h m (fun _ z => nomatch z); .rng m1 h1) .fn (fun m h q => let ⟨h1, m1⟩ := e.keep _ _ h m (fun _ z => nomatch z); .dic m1 h1 q) (fun s _ ih => .ft (e.ftt s) ih) .nil (fun _ _ a b => .cons a b) h
  · exact RA.rec (motive_1 := fun v d _ => R K M' H' v d) (motive_2 := fun vs ds _ => RA K M' H' vs ds) .non .bl .int .str (fun s _ ih => .tup (e.stt s) ih)
      (fun m h _ ih => let ⟨h1, m1⟩ := e.keep _ _ h m (fun _ z => nomatch z); .lst m1 h1 ih) (fun m => .cell (e.cell _ _ m))
      (fun h => .scr (e.stl h)) (fun m h => let ⟨h1, m1⟩ := e.keep _ _ h m (fun _ z => nomatch z); .rng m1 h1) .fn (fun m h q => let ⟨h1, m1⟩ := e.keep _ _ h m (fun _ z => nomatch z); .dic m1 h1 q) (fun s _ ih => .ft (e.ftt s) ih) .nil (fun _ _ a b => .cons a b) h
theorem Ext0.r (e : Ext0 M H M' H') {v : V} {d : D} (h : R K M H v d) : R K M' H' v d := e.r_ra.1 v d h
theorem Ext0.ra (e : Ext0 M H M' H') {vs : List V} {ds : List D} (h : RA K M H vs ds) : RA K M' H' vs ds := e.r_ra.2 vs ds h
theorem Ext.r (e : Ext M H M' H') {v : V} {d : D} (h : R K M H v d) : R K M' H' v d := e.r_ra.1 v d h
theorem Ext.ra (e : Ext M H M' H') {vs : List V} {ds : List D} (h : RA K M H vs ds) : RA K M' H' vs ds := e.r_ra.2 vs ds h
theorem RA.length : ∀ {xs : List V} {ds : List D}, RA K M H xs ds → xs.length = ds.length
  | _, _, .nil => rfl
  | _, _, .cons _ t => by rw [List.length_cons, List.length_cons, RA.length t]
theorem RA.get : ∀ {xs : List V} {ds : List D} {i : Nat} {d : D}, RA K M H xs ds → ds[i]? = some d → ∃ x, xs[i]? = some x ∧ R K M H x d
  | _, _, _, _, .nil, e => nomatch e
  | _, _, 0, _, .cons h _, e => by
    have e1 := Option.some.inj e
    subst e1
    exact ⟨_, rfl, h⟩
  | _, _, i + 1, _, .cons _ t, e => by
    obtain ⟨x, h1, h2⟩ := RA.get (i := i) t (by simpa using e)
    exact ⟨x, by simpa using h1, h2⟩
theorem RA.append : ∀ {xs ys : List V} {ds es : List D}, RA K M H xs ds → RA K M H ys es → RA K M H (xs ++ ys) (ds ++ es)
  | _, _, _, _, .nil, h => h
  | _, _, _, _, .cons h t, u => .cons h (RA.append t u)
theorem RA.take : ∀ {xs : List V} {ds : List D} (n : Nat), RA K M H xs ds → RA K M H (xs.take n) (ds.take n)
  | _, _, 0, _ => by
    rw [List.take_zero, List.take_zero]
    exact .nil
  | _, _, _ + 1, .nil => .nil
  | _, _, n + 1, .cons h t => .cons h (RA.take n t)
theorem RA.drop : ∀ {xs : List V} {ds : List D} (n : Nat), RA K M H xs ds → RA K M H (xs.drop n) (ds.drop n)
  | _, _, 0, h => h
  | _, _, _ + 1, .nil => .nil
  | _, _, n + 1, .cons _ t => RA.drop n t
theorem RA.set : ∀ {xs : List V} {ds : List D} (n : Nat) {v : V} {d : D}, RA K M H xs ds → R K M H v d → RA K M H (xs.set n v) (ds.set n d)
  | _, _, _, _, _, .nil, _ => .nil
  | _, _, 0, _, _, .cons _ t, h => .cons h t
  | _, _, n + 1, _, _, .cons a t, h => .cons a (RA.set n t h)
theorem RA.reverse : ∀ {xs : List V} {ds : List D}, RA K M H xs ds → RA K M H xs.reverse ds.reverse
  | _, _, .nil => .nil
  | _, _, .cons h t => by
    rw [List.reverse_cons, List.reverse_cons]
    exact RA.append (RA.reverse t) (.cons h .nil)
theorem RA.eraseIdx : ∀ {xs : List V} {ds : List D} (n : Nat), RA K M H xs ds → RA K M H (xs.eraseIdx n) (ds.eraseIdx n)
  | _, _, _, .nil => .nil
  | _, _, 0, .cons _ t => t
  | _, _, n + 1, .cons h t => .cons h (RA.eraseIdx n t)
theorem RA.ints : ∀ l : List Int, RA K M H (l.map V.int) (l.map D.int)
  | [] => .nil
  | i :: l => .cons (.int i) (RA.ints l)
theorem StL.sq {a : Addr} {xs : List V} (h : StL K M H a xs) : SqL K H a xs := by
  rcases h with ⟨_, h⟩ | h
  · exact .inl h
  · rcases h with (h | ⟨_, h⟩) | h
    · cases h
    · cases h
    · exact .inr h
theorem StT.sq {a : Addr} {xs : List V} (h : StT K M H a xs) : SqT K H a xs := by
  rcases h with ⟨_, h⟩ | h
  · exact .inl h
  · rcases h with (h | ⟨_, h⟩) | h
    · cases h
    · cases h
    · exact .inr h
end
end Z
/-! ## slots, cells, what a state stands for -/
namespace Z
open PySem PySem.Spec L2 GxR
open PyProof.Rows hiding St
inductive Slot where
  | un | sv (d : D) | own (l : List D)
inductive Cell where
  | lst (l : List D) | dic (l : List (Int × Int))
structure S where
  ρ : List Slot
  cs : List Cell
/-- what is fixed through a law: the written part, the tables of code that are looked at, the classes of errors (with the name of their field) -/
structure En where
  K : PySem.W.Frag
  G : List Addr
  CT : Nat → Option (Addr × Str)
/-- all that was tracked is as it was, tables of code may have grown -/
def Same (H H' : Hp) : Prop := (∀ b o, H b = some o → (∀ ps, o ≠ .tbl ps) → H' b = some o) ∧ ∀ b, TabG H b → TabG H' b
theorem Same.refl (H : Hp) : Same H H := ⟨fun _ _ h _ => h, fun _ h => h⟩
theorem Same.trans {H H1 H2 : Hp} (a : Same H H1) (b : Same H1 H2) : Same H H2 := ⟨fun c o h n => b.1 c o (a.1 c o h n) n, fun c h => b.2 c (a.2 c h)⟩
theorem Same.tabbed {P : Addr} {H H' : Hp} (h : TabG H P) (t : Tabbed P H H') : Same H H' := by
  refine ⟨fun b o e n => ?_, fun b hb => ?_⟩
  · obtain ⟨ps, hp, _⟩ := h
    rw [t.2 b (fun z => by rw [z, hp] at e; exact n ps (Option.some.inj e).symm)]
    exact e
  · by_cases z : b = P
    · rw [z]
      exact t.1
    · obtain ⟨ps, hp, ht⟩ := hb
      exact ⟨ps, by rw [t.2 b z]; exact hp, ht⟩
theorem Same.upd {p : Addr} {o : HO} {H : Hp} (h : H p = none) : Same H (upd H p o) := by
  refine ⟨fun b x e n => ?_, fun b hb => ?_⟩
  · rw [upd_ne (ne_of_none e h)]
    exact e
  · obtain ⟨ps, hp, ht⟩ := hb
    exact ⟨ps, by rw [upd_ne (ne_of_none hp h)]; exact hp, ht⟩
def dlook (l : List (Int × Int)) (k : Int) : Option Int := (l.find? fun q => q.1 == k).map (·.2)
def RC (K : PySem.W.Frag) (M : MM) (H : Hp) (a : Addr) : Cell → Prop
  | .lst l => ∃ xs, H a = some (.lst xs) ∧ RA K M H xs l
  | .dic l => ∃ kvs, H a = some (.dK kvs) ∧ kvs.length ≤ l.length ∧ ∀ k : Int, valV kvs (Sum.inl k : Key) = (dlook l k).map V.int
structure RelC (N : En) (M : MM) (cs : List Cell) (H : Hp) : Prop where
  cell : ∀ (n : Nat) (c : Cell), cs[n]? = some c → ∃ a, M a = some (.cell n) ∧ RC N.K M H a c
  uniq : ∀ a b n, M a = some (.cell n) → M b = some (.cell n) → a = b
  csz : ∀ a n, M a = some (.cell n) → n < cs.length
  mdom : ∀ a w, M a = some w → ∃ o, H a = some o ∧ ∀ ps, o ≠ .tbl ps
  tabs : ∀ P ∈ N.G, TabG H P
structure Rel (N : En) (M : MM) (s : S) (σ : St) (H : Hp) : Prop extends RelC N M s.cs H where
  len : σ.length = s.ρ.length
  sv : ∀ (i : Nat) (d : D), s.ρ[i]? = some (Slot.sv d) → ∃ v, σ[i]? = some (some v) ∧ R N.K M H v d
  own : ∀ (i : Nat) (l : List D), s.ρ[i]? = some (Slot.own l) → ∃ a xs, σ[i]? = some (some (.ref a)) ∧ M a = some (.slot i) ∧ H a = some (.lst xs) ∧ RA N.K M H xs l
section
variable {N : En} {M M' : MM} {s : S} {σ : St} {H H' : Hp} {cs : List Cell}
theorem RelC.fresh (r : RelC N M cs H) {p : Addr} (h : H p = none) : M p = none := by
  cases e : M p with
  | none => rfl
  | some w =>
    obtain ⟨o, h1, _⟩ := r.mdom p w e
    rw [h] at h1
    cases h1
theorem RelC.ext (r : RelC N M cs H) (z : Same H H') : Ext M H M H' where
  keep := fun a o h m n => ⟨z.1 a o h n, m⟩
  cell := fun _ _ h => h
  tab := z.2
  far := fun a h => ⟨h, by
    obtain ⟨o, h1, n⟩ := r.mdom a _ h
    rw [h1, z.1 a o h1 n]⟩
  dom := fun a o h n => ⟨o, z.1 a o h n, n⟩
theorem RC.ext {a : Addr} {c : Cell} (e : Ext0 M H M' H') (h : H' a = H a) (q : RC N.K M H a c) : RC N.K M' H' a c := by
  cases c with
  | lst l =>
    obtain ⟨xs, h1, h2⟩ := q
    exact ⟨xs, h.trans h1, e.ra h2⟩
  | dic l =>
    obtain ⟨kvs, h1, h2⟩ := q
    exact ⟨kvs, h.trans h1, h2⟩
theorem RelC.keptAt (r : RelC N M cs H) (z : Same H H') {a : Addr} {w : Own} (m : M a = some w) : H' a = H a := by
  obtain ⟨o, h1, n⟩ := r.mdom a w m
  rw [h1, z.1 a o h1 n]
theorem RelC.same (r : RelC N M cs H) (z : Same H H') : RelC N M cs H' where
  cell := fun n c h => by
    obtain ⟨a, m, q⟩ := r.cell n c h
    exact ⟨a, m, q.ext (r.ext z).toExt0 (r.keptAt z m)⟩
  uniq := r.uniq
  csz := r.csz
  mdom := fun a w m => by
    obtain ⟨o, h1, n⟩ := r.mdom a w m
    exact ⟨o, z.1 a o h1 n, n⟩
  tabs := fun P h => z.2 P (r.tabs P h)
theorem Rel.same (r : Rel N M s σ H) (z : Same H H') : Rel N M s σ H' where
  toRelC := r.toRelC.same z
  len := r.len
  sv := fun i d h => by
    obtain ⟨v, h1, h2⟩ := r.sv i d h
    exact ⟨v, h1, (r.ext z).r h2⟩
  own := fun i l h => by
    obtain ⟨a, xs, h1, m, h2, h3⟩ := r.own i l h
    exact ⟨a, xs, h1, m, (r.keptAt z m).trans h2, (r.ext z).ra h3⟩
/-- a new object that only we may write -/
def own1 (M : MM) (p : Addr) (w : Option Own) : MM := fun a => if a = p then w else M a
theorem own1_same {p : Addr} {w : Option Own} : own1 M p w p = w := if_pos rfl
theorem own1_ne {p a : Addr} {w : Option Own} (h : a ≠ p) : own1 M p w a = M a := if_neg h
/-- what was of nobody but us may be of anybody's: from the far side -/
theorem ext0_own {p : Addr} {w : Option Own} (h : M p = some .far) : Ext0 M H (own1 M p w) H where
  keep := fun a o h1 m _ => ⟨h1, by
    rw [own1_ne]
    · exact m
    · rintro rfl
      rw [h] at m; cases m⟩
  cell := fun a n h1 => by
    rw [own1_ne]
    · exact h1
    · rintro rfl
      rw [h] at h1; cases h1
/-- an object that nobody's data lean on is written -/
theorem ext0_upd {p : Addr} {o : HO} {w : Own} (h : M p = some w) : Ext0 M H M (upd H p o) where
  keep := fun a u h1 m _ => ⟨(by
    rw [upd_ne]
    · exact h1
    · rintro rfl
      rw [h] at m
      cases m), m⟩
  cell := fun _ _ h1 => h1
theorem RelC.ownW (r : RelC N M cs H) {p : Addr} {w : Option Own} (h : M p = some .far) (hw : ∀ n, w ≠ some (.cell n)) : RelC N (own1 M p w) cs H where
  cell := fun n c h1 => by
    obtain ⟨a, m, q⟩ := r.cell n c h1
    refine ⟨a, ?_, q.ext (ext0_own h) rfl⟩
    rw [own1_ne]
    · exact m
    · rintro rfl
      rw [h] at m; cases m
  uniq := fun a b n h1 h2 => by
    have ha : a ≠ p := fun z => by rw [z, own1_same] at h1; exact hw n h1
    have hb : b ≠ p := fun z => by rw [z, own1_same] at h2; exact hw n h2
    rw [own1_ne ha] at h1
    rw [own1_ne hb] at h2
    exact r.uniq a b n h1 h2
  csz := fun a n h1 => by
    have ha : a ≠ p := fun z => by rw [z, own1_same] at h1; exact hw n h1
    rw [own1_ne ha] at h1
    exact r.csz a n h1
  mdom := fun a u h1 => by
    by_cases ha : a = p
    · subst ha
      exact r.mdom a _ h
    · rw [own1_ne ha] at h1
      exact r.mdom a u h1
  tabs := r.tabs
theorem Rel.ownW (r : Rel N M s σ H) {p : Addr} {w : Option Own} (h : M p = some .far) (hw : ∀ n, w ≠ some (.cell n)) : Rel N (own1 M p w) s σ H where
  toRelC := r.toRelC.ownW h hw
  len := r.len
  sv := fun i d h1 => by
    obtain ⟨v, k1, k2⟩ := r.sv i d h1
    exact ⟨v, k1, (ext0_own h).r k2⟩
  own := fun i l h1 => by
    obtain ⟨a, xs, k1, m, k2, k3⟩ := r.own i l h1
    refine ⟨a, xs, k1, ?_, k2, (ext0_own h).ra k3⟩
    rw [own1_ne]
    · exact m
    · rintro rfl
      rw [h] at m; cases m
theorem tab_upd {p b : Addr} {o u : HO} (hu : H p = some u) (n : ∀ ps, u ≠ .tbl ps) (h : TabG H b) : TabG (upd H p o) b := by
  obtain ⟨ps, hp, ht⟩ := h
  refine ⟨ps, ?_, ht⟩
  rw [upd_ne]
  · exact hp
  · rintro rfl
    rw [hu] at hp
    cases hp
    exact n ps rfl
/-- our own list is written -/
theorem RelC.updL (r : RelC N M cs H) {p : Addr} {xs : List V} {w : Own} (h : M p = some w) (hw : ∀ n, w ≠ .cell n) : RelC N M cs (upd H p (.lst xs)) where
  cell := fun n c h1 => by
    obtain ⟨a, m, q⟩ := r.cell n c h1
    refine ⟨a, m, q.ext (ext0_upd h) (upd_ne ?_)⟩
    rintro rfl
    rw [h] at m
    exact hw n (Option.some.inj m)
  uniq := r.uniq
  csz := r.csz
  mdom := fun a u h1 => by
    by_cases ha : a = p
    · subst ha
      exact ⟨_, upd_same, fun _ z => nomatch z⟩
    · obtain ⟨o, k1, k2⟩ := r.mdom a u h1
      exact ⟨o, by rw [upd_ne ha]; exact k1, k2⟩
  tabs := fun P hP => by
    obtain ⟨u, hu, n⟩ := r.mdom p w h
    exact tab_upd hu n (r.tabs P hP)
theorem ext_upd (r : RelC N M cs H) {p : Addr} {xs : List V} {i : Nat} (h : M p = some (.slot i)) : Ext M H M (upd H p (.lst xs)) where
  toExt0 := ext0_upd h
  tab := fun b hb => by
    obtain ⟨u, hu, n⟩ := r.mdom p _ h
    exact tab_upd hu n hb
  far := fun a ha => ⟨ha, upd_ne fun z => by rw [z, h] at ha; cases ha⟩
  dom := fun a o ho n => by
    by_cases z : a = p
    · subst z
      exact ⟨_, upd_same, fun _ z => nomatch z⟩
    · exact ⟨o, by rw [upd_ne z]; exact ho, n⟩
/-- .. in slot i -/
theorem Rel.updL (r : Rel N M s σ H) {i : Nat} {a : Addr} {l' : List D} {xs' : List V} (h : ∃ l, s.ρ[i]? = some (.own l)) (h1 : σ[i]? = some (some (.ref a))) (m : M a = some (.slot i)) (q : RA N.K M H xs' l') :
    Rel N M { s with ρ := s.ρ.set i (.own l') } σ (upd H a (.lst xs')) where
  toRelC := r.toRelC.updL m (fun _ z => nomatch z)
  len := by simp only [List.length_set]; exact r.len
  sv := fun j d hj => by
    by_cases z : i = j
    · subst z
      obtain ⟨l, h⟩ := h
      rw [List.getElem?_set_self (List.getElem?_eq_some_iff.mp h).1] at hj
      cases hj
    · rw [List.getElem?_set_ne z] at hj
      obtain ⟨v, k1, k2⟩ := r.sv j d hj
      exact ⟨v, k1, (ext0_upd m).r k2⟩
  own := fun j l2 hj => by
    by_cases z : i = j
    · subst z
      obtain ⟨l, h⟩ := h
      rw [List.getElem?_set_self (List.getElem?_eq_some_iff.mp h).1] at hj
      cases hj
      exact ⟨a, xs', h1, m, upd_same, (ext0_upd m).ra q⟩
    · rw [List.getElem?_set_ne z] at hj
      obtain ⟨b, ys, k1, k2, k3, k4⟩ := r.own j l2 hj
      refine ⟨b, ys, k1, k2, ?_, (ext0_upd m).ra k4⟩
      rw [upd_ne]
      · exact k3
      · rintro rfl
        rw [m] at k2
        cases k2
        exact z rfl
/-- a list that was laid anew, ours for now -/
theorem RelC.laid (r : RelC N M cs H) {p : Addr} {xs : List V} (h : H p = none) : RelC N (own1 M p (some .far)) cs (upd H p (.lst xs)) ∧ Ext M H (own1 M p (some .far)) (upd H p (.lst xs)) := by
  have mp := r.fresh h
  have e : Ext M H (own1 M p (some .far)) (upd H p (.lst xs)) := ⟨⟨fun a o h1 m _ => by
      have ne : a ≠ p := fun z => by rw [z, h] at h1; cases h1
      exact ⟨by rw [upd_ne ne]; exact h1, by rw [own1_ne ne]; exact m⟩, fun a n m => by
      have ne : a ≠ p := fun z => by rw [z, mp] at m; cases m
      rw [own1_ne ne]
      exact m⟩, (Same.upd h).2, fun a m => by
      have ne : a ≠ p := fun z => by rw [z, mp] at m; cases m
      exact ⟨by rw [own1_ne ne]; exact m, upd_ne ne⟩, fun a o ho n => ⟨o, (Same.upd h).1 a o ho n, n⟩⟩
  refine ⟨⟨fun n c h1 => ?_, fun a b n h1 h2 => ?_, fun a n h1 => ?_, fun a u h1 => ?_, fun P hP => e.tab P (r.tabs P hP)⟩, e⟩
  · obtain ⟨a, m, q⟩ := r.cell n c h1
    have ne : a ≠ p := fun z => by rw [z, mp] at m; cases m
    exact ⟨a, by rw [own1_ne ne]; exact m, q.ext e.toExt0 (upd_ne ne)⟩
  · have ha : a ≠ p := fun z => by rw [z, own1_same] at h1; cases h1
    have hb : b ≠ p := fun z => by rw [z, own1_same] at h2; cases h2
    rw [own1_ne ha] at h1
    rw [own1_ne hb] at h2
    exact r.uniq a b n h1 h2
  · have ha : a ≠ p := fun z => by rw [z, own1_same] at h1; cases h1
    rw [own1_ne ha] at h1
    exact r.csz a n h1
  · by_cases ha : a = p
    · subst ha
      exact ⟨_, upd_same, fun _ z => nomatch z⟩
    · rw [own1_ne ha] at h1
      obtain ⟨o, k1, k2⟩ := r.mdom a u h1
      exact ⟨o, by rw [upd_ne ha]; exact k1, k2⟩
theorem Rel.laid (r : Rel N M s σ H) {p : Addr} {xs : List V} (h : H p = none) : Rel N (own1 M p (some .far)) s σ (upd H p (.lst xs)) := by
  have mp := r.toRelC.fresh h
  obtain ⟨rc, e⟩ := r.toRelC.laid (xs := xs) h
  refine ⟨rc, r.len, fun i d h1 => ?_, fun i l h1 => ?_⟩
  · obtain ⟨v, k1, k2⟩ := r.sv i d h1
    exact ⟨v, k1, e.r k2⟩
  · obtain ⟨a, ys, k1, m, k2, k3⟩ := r.own i l h1
    have ne : a ≠ p := fun z => by rw [z, mp] at m; cases m
    exact ⟨a, ys, k1, by rw [own1_ne ne]; exact m, by rw [upd_ne ne]; exact k2, e.ra k3⟩
/-- of nobody's, and no datum leans on it -/
def Fresh (M : MM) (H : Hp) (p : Addr) : Prop := M p = none ∧ ∀ o, H p = some o → ∃ ps, o = .tbl ps
theorem Ext.fresh (e : Ext M H M' H') (r : RelC N M cs H) {p : Addr} (h : H' p = none) : Fresh M H p := by
  have q : ∀ o, H p = some o → (∀ ps, o ≠ .tbl ps) → False := fun o ho n => by
    obtain ⟨o', h1, _⟩ := e.dom p o ho n
    rw [h] at h1
    cases h1
  refine ⟨?_, fun o ho => ?_⟩
  · cases m : M p with
    | none => rfl
    | some w =>
      obtain ⟨o, ho, n⟩ := r.mdom p w m
      exact (q o ho n).elim
  · cases o with
    | tbl ps => exact ⟨ps, rfl⟩
    | _ => exact (q _ ho (fun _ z => nomatch z)).elim
/-- behind all: whose a new thing is may be told anew -/
theorem Ext.ownW {p : Addr} {w : Option Own} (e : Ext M H M' H') (f : Fresh M H p) : Ext M H (own1 M' p w) H' where
  keep := fun a o h1 m1 n => by
    have ne : a ≠ p := fun z => by
      obtain ⟨ps, z2⟩ := f.2 o (z ▸ h1)
      exact n ps z2
    obtain ⟨k1, k2⟩ := e.keep a o h1 m1 n
    exact ⟨k1, by rw [own1_ne ne]; exact k2⟩
  cell := fun a n h1 => by
    have ne : a ≠ p := fun z => by rw [z, f.1] at h1; cases h1
    rw [own1_ne ne]
    exact e.cell a n h1
  tab := e.tab
  far := fun a h1 => by
    have ne : a ≠ p := fun z => by rw [z, f.1] at h1; cases h1
    obtain ⟨k1, k2⟩ := e.far a h1
    exact ⟨by rw [own1_ne ne]; exact k1, k2⟩
  dom := e.dom
/-- slots -/
theorem Rel.set (r : Rel N M s σ H) {i : Nat} {v : V} {d : D} (q : R N.K M H v d) : Rel N M { s with ρ := s.ρ.set i (.sv d) } (σ.set i (some v)) H where
  toRelC := r.toRelC
  len := by simp only [List.length_set]; exact r.len
  sv := fun j e hj => by
    by_cases z : i = j
    · subst z
      have hlt : i < s.ρ.length := by
        have := (List.getElem?_eq_some_iff.mp hj).1
        simpa using this
      rw [List.getElem?_set_self hlt] at hj
      cases hj
      exact ⟨v, List.getElem?_set_self (by rw [r.len]; exact hlt), q⟩
    · rw [List.getElem?_set_ne z] at hj
      rw [List.getElem?_set_ne z]
      exact r.sv j e hj
  own := fun j l hj => by
    by_cases z : i = j
    · subst z
      have hlt : i < s.ρ.length := by
        have := (List.getElem?_eq_some_iff.mp hj).1
        simpa using this
      rw [List.getElem?_set_self hlt] at hj
      cases hj
    · rw [List.getElem?_set_ne z] at hj
      rw [List.getElem?_set_ne z]
      exact r.own j l hj
theorem Rel.setOwn (r : Rel N M s σ H) {i : Nat} {p : Addr} {xs : List V} {l : List D} (m : M p = some .far) (h : H p = some (.lst xs)) (q : RA N.K M H xs l) :
    Rel N (own1 M p (some (.slot i))) { s with ρ := s.ρ.set i (.own l) } (σ.set i (some (.ref p))) H := by
  have r2 := r.ownW (w := some (.slot i)) m (fun _ z => nomatch z)
  refine ⟨r2.toRelC, by simp only [List.length_set]; exact r.len, fun j e hj => ?_, fun j l2 hj => ?_⟩
  · by_cases z : i = j
    · subst z
      have hlt : i < s.ρ.length := by
        have := (List.getElem?_eq_some_iff.mp hj).1
        simpa using this
      rw [List.getElem?_set_self hlt] at hj
      cases hj
    · rw [List.getElem?_set_ne z] at hj
      rw [List.getElem?_set_ne z]
      exact r2.sv j e hj
  · by_cases z : i = j
    · subst z
      have hlt : i < s.ρ.length := by
        have := (List.getElem?_eq_some_iff.mp hj).1
        simpa using this
      rw [List.getElem?_set_self hlt] at hj
      cases hj
      exact ⟨p, xs, List.getElem?_set_self (by rw [r.len]; exact hlt), own1_same, h, (ext0_own m).ra q⟩
    · rw [List.getElem?_set_ne z] at hj
      rw [List.getElem?_set_ne z]
      exact r2.own j l2 hj
end
end Z
/-! ## what a piece of code does with a state -/
namespace Z
open PySem PySem.Spec L2 GxR
open PyProof.Rows hiding St
inductive Res (α : Type) where
  | ok (a : α) (s : S) | exc (c : Nat) (d : D) (s : S) | stuck
def Res.bind {α β : Type} (r : Res α) (k : α → S → Res β) : Res β := match r with
  | .ok a s => k a s
  | .exc c d s => .exc c d s
  | .stuck => .stuck
abbrev Ex := S → Res D
abbrev Ts := S → Res Bool
abbrev As := S → Res (List D)
/-- an error's own dict -/
def XD (H : Hp) (dx : Addr) (f : Str) (v : V) : Prop := ∃ fs, H dx = some (.xd fs) ∧ fs.lookup f = some v
def GX (N : En) (W : WX) (M : MM) (H : Hp) (c : Nat) (d : D) (s : S) : Prop := ∀ M' H' σ' C fld dx v, Ext M H M' H' → Rel N M' s σ' H' → N.CT c = some (C, fld) → XD H' dx fld v → R N.K M' H' v d → W (.ref C) (some dx) σ' H'
def GoodE (N : En) (W : WX) (σ : St) (M : MM) (H : Hp) {α : Type} (r : Res α) (Φ : MM → Hp → α → S → Prop) : Prop := match r with
  | .ok a s => ∀ M' H', Ext M H M' H' → Rel N M' s σ H' → Φ M' H' a s
  | .exc c d s => GX N W M H c d s
  | .stuck => False
def GoodS (N : En) (W : WX) (M : MM) (H : Hp) {α : Type} (r : Res α) (Φ : MM → Hp → St → α → S → Prop) : Prop := match r with
  | .ok a s => ∀ M' H' σ', Ext M H M' H' → Rel N M' s σ' H' → Φ M' H' σ' a s
  | .exc c d s => GX N W M H c d s
  | .stuck => False
section
variable {N : En} {W : WX} {σ : St} {M M' : MM} {H H' : Hp} {α β : Type} {r : Res α} {k : α → S → Res β}
theorem GX.rebase {c : Nat} {d : D} {s : S} (e : Ext M H M' H') (h : GX N W M H c d s) : GX N W M' H' c d s := fun M2 H2 σ' C fld dx v e2 => h M2 H2 σ' C fld dx v (e.trans e2)
theorem GoodE.rebase {Φ : MM → Hp → α → S → Prop} (h : GoodE N W σ M H r Φ) (e : Ext M H M' H') : GoodE N W σ M' H' r Φ := by
  cases r with
  | ok a s => exact fun M2 H2 e2 => h M2 H2 (e.trans e2)
  | exc c d s => exact GX.rebase e h
  | stuck => exact h
theorem GoodE.bind {Φ : MM → Hp → β → S → Prop} (h : GoodE N W σ M H (r.bind k) Φ) : GoodE N W σ M H r (fun M' H' a s => GoodE N W σ M' H' (k a s) Φ) := by
  cases r with
  | ok a s => exact fun M2 H2 e2 _ => GoodE.rebase h e2
  | exc c d s => exact h
  | stuck => exact h
theorem GoodE.imp {Φ Φ' : MM → Hp → α → S → Prop} (h : GoodE N W σ M H r Φ) (f : ∀ M' H' a s, Ext M H M' H' → Rel N M' s σ H' → Φ M' H' a s → Φ' M' H' a s) : GoodE N W σ M H r Φ' := by
  cases r with
  | ok a s => exact fun M2 H2 e2 r2 => f M2 H2 a s e2 r2 (h M2 H2 e2 r2)
  | exc c d s => exact h
  | stuck => exact h
theorem GoodE.here {Φ : MM → Hp → α → S → Prop} {a : α} {s : S} (h : GoodE N W σ M H (.ok a s) Φ) (q : Rel N M s σ H) : Φ M H a s := h M H (Ext.refl M H) q
theorem GoodE.at {Φ : MM → Hp → α → S → Prop} {a : α} {s : S} (h : GoodE N W σ M H (.ok a s) Φ) (e : Ext M H M' H') (q : Rel N M' s σ H') : Φ M' H' a s := h M' H' e q
theorem GoodS.rebase {Φ : MM → Hp → St → α → S → Prop} (h : GoodS N W M H r Φ) (e : Ext M H M' H') : GoodS N W M' H' r Φ := by
  cases r with
  | ok a s => exact fun M2 H2 σ2 e2 => h M2 H2 σ2 (e.trans e2)
  | exc c d s => exact GX.rebase e h
  | stuck => exact h
theorem GoodS.bind {Φ : MM → Hp → St → β → S → Prop} (h : GoodS N W M H (r.bind k) Φ) : GoodS N W M H r (fun M' H' _ a s => GoodS N W M' H' (k a s) Φ) := by
  cases r with
  | ok a s => exact fun M2 H2 _ e2 _ => GoodS.rebase h e2
  | exc c d s => exact h
  | stuck => exact h
theorem GoodS.imp {Φ Φ' : MM → Hp → St → α → S → Prop} (h : GoodS N W M H r Φ) (f : ∀ M' H' σ' a s, Ext M H M' H' → Rel N M' s σ' H' → Φ M' H' σ' a s → Φ' M' H' σ' a s) : GoodS N W M H r Φ' := by
  cases r with
  | ok a s => exact fun M2 H2 σ2 e2 r2 => f M2 H2 σ2 a s e2 r2 (h M2 H2 σ2 e2 r2)
  | exc c d s => exact h
  | stuck => exact h
theorem GoodS.toE {Φ : MM → Hp → St → α → S → Prop} (h : GoodS N W M H r Φ) : GoodE N W σ M H r (fun M' H' a s => Φ M' H' σ a s) := by
  cases r with
  | ok a s => exact fun M2 H2 e2 => h M2 H2 σ e2
  | exc c d s => exact h
  | stuck => exact h
theorem GoodS.bindE {Φ : MM → Hp → St → β → S → Prop} (h : GoodS N W M H (r.bind k) Φ) : GoodE N W σ M H r (fun M' H' a s => GoodS N W M' H' (k a s) Φ) := h.bind.toE
theorem GoodS.at {Φ : MM → Hp → St → α → S → Prop} {a : α} {s : S} (h : GoodS N W M H (.ok a s) Φ) (e : Ext M H M' H') (q : Rel N M' s σ H') : Φ M' H' σ a s := h M' H' σ e q
theorem GoodS.here {Φ : MM → Hp → St → α → S → Prop} {a : α} {s : S} (h : GoodS N W M H (.ok a s) Φ) (q : Rel N M s σ H) : Φ M H σ a s := h M H σ (Ext.refl M H) q
end
/-- what may be read: a datum, or a list of ours -/
def RB (K : PySem.W.Frag) (M : MM) (H : Hp) (v : V) (d : D) : Prop := R K M H v d ∨ ∃ a xs l i, v = .ref a ∧ d = .lst l ∧ M a = some (.slot i) ∧ H a = some (.lst xs) ∧ RA K M H xs l
theorem RB.list {K : PySem.W.Frag} {M : MM} {H : Hp} {v : V} {l : List D} (h : RB K M H v (.lst l)) : ∃ a xs, v = .ref a ∧ H a = some (.lst xs) ∧ RA K M H xs l := by
  rcases h with h | ⟨a, xs, l', i, rfl, e, _, h1, h2⟩
  · cases h with
    | lst _ h1 h2 => exact ⟨_, _, rfl, h1, h2⟩
  · cases e
    exact ⟨a, xs, rfl, h1, h2⟩
theorem RB.tup {K : PySem.W.Frag} {M : MM} {H : Hp} {v : V} {l : List D} (h : RB K M H v (.tup l)) : ∃ a xs, v = .ref a ∧ StT K M H a xs ∧ RA K M H xs l := by
  rcases h with h | ⟨a, xs, l', i, rfl, e, _, h1, h2⟩
  · cases h with
    | tup h1 h2 => exact ⟨_, _, rfl, h1, h2⟩
  · cases e
theorem RB.of {K : PySem.W.Frag} {M : MM} {H : Hp} {v : V} {d : D} (h : RB K M H v d) (n : ∀ l, d ≠ .lst l) : R K M H v d := by
  rcases h with h | ⟨a, xs, l', i, rfl, e, _, h1, h2⟩
  · exact h
  · exact absurd e (n _)
theorem R.rb {K : PySem.W.Frag} {M : MM} {H : Hp} {v : V} {d : D} (h : R K M H v d) : RB K M H v d := .inl h
def SimE (N : En) (W : WX) (t : TE) (f : Ex) : Prop := ∀ M s σ H Q, Rel N M s σ H → GoodE N W σ M H (f s) (fun M' H' d _ => ∀ v, R N.K M' H' v d → Q v H') → t σ H Q
def SimB (N : En) (W : WX) (t : TE) (f : Ex) : Prop := ∀ M s σ H Q, Rel N M s σ H → GoodE N W σ M H (f s) (fun M' H' d _ => ∀ v, RB N.K M' H' v d → Q v H') → t σ H Q
/-- a list that nobody else knows of: it stands at p, and is ours -/
def SimF (N : En) (W : WX) (t : TE) (f : As) : Prop := ∀ M s σ H Q, Rel N M s σ H → GoodE N W σ M H (f s) (fun M' H' ds _ => ∀ p xs, Fresh M H p → M' p = some .far → H' p = some (.lst xs) → RA N.K M' H' xs ds → Q (.ref p) H') → t σ H Q
def SimT (N : En) (W : WX) (t : TT) (f : Ts) : Prop := ∀ M s σ H Q, Rel N M s σ H → GoodE N W σ M H (f s) (fun _ H' b _ => Q b H') → t σ H Q
def SimA (N : En) (W : WX) (t : TA) (f : As) : Prop := ∀ M s σ H Q, Rel N M s σ H → GoodE N W σ M H (f s) (fun M' H' ds _ => ∀ vs, RA N.K M' H' vs ds → Q vs H') → t σ H Q
def SE (N : En) (W : WX) (X : Cx) (e : Expr) (f : Ex) : Prop := ∃ t, PE X e t ∧ SimE N W t f
def SB (N : En) (W : WX) (X : Cx) (e : Expr) (f : Ex) : Prop := ∃ t, PE X e t ∧ SimB N W t f
def SF (N : En) (W : WX) (X : Cx) (e : Expr) (f : As) : Prop := ∃ t, PE X e t ∧ SimF N W t f
def ST (N : En) (W : WX) (X : Cx) (e : Expr) (f : Ts) : Prop := ∃ t, PT X e t ∧ SimT N W t f
def SW (N : En) (W : WX) (X : Cx) (e : Expr) (f : Ts) : Prop := ∃ t, PW X e t ∧ SimT N W t f
def SA (N : En) (W : WX) (X : Cx) (es : List Expr) (f : As) : Prop := ∃ t, PA X es t ∧ SimA N W t f ∧ ∀ s ds s', f s = .ok ds s' → ds.length = es.length
section
variable {N : En} {W : WX} {X : Cx} {e a b : Expr} {pos : Pos} {f g fa fb : Ex}
theorem SE.sb (h : SE N W X e f) : SB N W X e f := by
  obtain ⟨t, h1, h2⟩ := h
  exact ⟨t, h1, fun M s σ H Q r q => h2 M s σ H Q r (q.imp fun _ _ _ _ _ _ k v hv => k v hv.rb)⟩
/-! ### constants and names -/
def eC (d : D) : Ex := fun s => .ok d s
theorem sim_c {v : V} {d : D} (h : ∀ M H, R N.K M H v d) : SimE N W (tC v) (eC d) := fun M s σ H Q r q => q.here r v (h M H)
theorem se_int {i : Int} {j : Nat} : SE N W X (.Constant (.int i) j pos) (eC (.int i)) := ⟨_, pe_int, sim_c fun _ _ => .int i⟩
theorem se_bl {b : Bool} {j : Nat} : SE N W X (.Constant (.bool b) j pos) (eC (.bl b)) := ⟨_, pe_bl, sim_c fun _ _ => .bl b⟩
theorem se_non {j : Nat} : SE N W X (.Constant .none j pos) (eC .non) := ⟨_, pe_non, sim_c fun _ _ => .non⟩
theorem se_str {x : Str} {j : Nat} (n : Nat) (hx : x = txt n := by rfl) (hn : n < 70 := by decide) : SE N W X (.Constant (.str x) j pos) (eC (.str n)) := ⟨_, pe_str, sim_c fun _ _ => hx ▸ .str hn⟩
/-- a name: a list of ours is nobody's from here on -/
def eV (i : Nat) : Ex := fun s => match s.ρ[i]? with
  | some (.sv d) => .ok d s
  | some (.own l) => .ok (.lst l) { s with ρ := s.ρ.set i (.sv (.lst l)) }
  | _ => .stuck
/-- .. that is only read -/
def eVB (i : Nat) : Ex := fun s => match s.ρ[i]? with
  | some (.sv d) => .ok d s
  | some (.own l) => .ok (.lst l) s
  | _ => .stuck
end
section
variable {N : En} {W : WX} {M M' : MM} {s : S} {σ : St} {H H' : Hp} {cs : List Cell}
/-- an address is given free -/
theorem ext_free {p : Addr} (hc : ∀ n, M p ≠ some (.cell n)) (hf : M p ≠ some .far) : Ext M H (own1 M p none) H where
  keep := fun a u h m _ => ⟨h, by
    by_cases z : a = p
    · subst z; exact own1_same
    · rw [own1_ne z]; exact m⟩
  tab := fun _ h => h
  cell := fun a n h => by
    rw [own1_ne fun z => hc n (by rw [← z]; exact h)]
    exact h
  far := fun a h => ⟨by
    rw [own1_ne fun z => hf (by rw [← z]; exact h)]
    exact h, rfl⟩
  dom := fun _ o h n => ⟨o, h, n⟩
theorem RelC.free (r : RelC N M cs H) {p : Addr} (hc : ∀ n, M p ≠ some (.cell n)) (e : Ext M H (own1 M p none) H) : RelC N (own1 M p none) cs H where
  cell := fun n c h => by
    obtain ⟨a, m, q⟩ := r.cell n c h
    exact ⟨a, by rw [own1_ne fun z => hc n (by rw [← z]; exact m)]; exact m, q.ext e.toExt0 rfl⟩
  uniq := fun a b n h1 h2 => by
    have ha : a ≠ p := fun z => by rw [z, own1_same] at h1; cases h1
    have hb : b ≠ p := fun z => by rw [z, own1_same] at h2; cases h2
    rw [own1_ne ha] at h1
    rw [own1_ne hb] at h2
    exact r.uniq a b n h1 h2
  csz := fun a n h1 => by
    have ha : a ≠ p := fun z => by rw [z, own1_same] at h1; cases h1
    rw [own1_ne ha] at h1
    exact r.csz a n h1
  mdom := fun a w h1 => by
    have ha : a ≠ p := fun z => by rw [z, own1_same] at h1; cases h1
    rw [own1_ne ha] at h1
    exact r.mdom a w h1
  tabs := r.tabs
theorem Rel.freeze (r : Rel N M s σ H) {i : Nat} {l : List D} (h : s.ρ[i]? = some (.own l)) :
    ∃ M' v, Ext M H M' H ∧ Rel N M' { s with ρ := s.ρ.set i (.sv (.lst l)) } σ H ∧ σ[i]? = some (some v) ∧ R N.K M' H v (.lst l) := by
  obtain ⟨a, xs, h1, m, h2, h3⟩ := r.own i l h
  have hc : ∀ n, M a ≠ some (.cell n) := fun n z => by rw [m] at z; cases z
  have e : Ext M H (own1 M a none) H := ext_free hc fun z => by rw [m] at z; cases z
  have hR : R N.K (own1 M a none) H (.ref a) (.lst l) := .lst own1_same h2 (e.ra h3)
  refine ⟨own1 M a none, .ref a, e, ⟨r.toRelC.free hc e, by simp only [List.length_set]; exact r.len, fun j d hj => ?_, fun j l' hj => ?_⟩, h1, hR⟩
  · by_cases z : i = j
    · subst z
      have hlt : i < s.ρ.length := (List.getElem?_eq_some_iff.mp h).1
      rw [List.getElem?_set_self hlt] at hj
      cases hj
      exact ⟨_, h1, hR⟩
    · rw [List.getElem?_set_ne z] at hj
      obtain ⟨v, k1, k2⟩ := r.sv j d hj
      exact ⟨v, k1, e.r k2⟩
  · by_cases z : i = j
    · subst z
      have hlt : i < s.ρ.length := (List.getElem?_eq_some_iff.mp h).1
      rw [List.getElem?_set_self hlt] at hj
      cases hj
    · rw [List.getElem?_set_ne z] at hj
      obtain ⟨b, ys, k1, k2, k3, k4⟩ := r.own j l' hj
      refine ⟨b, ys, k1, ?_, k3, e.ra k4⟩
      rw [own1_ne]
      · exact k2
      · rintro rfl
        rw [m] at k2
        cases k2
        exact z rfl
end
section
variable {N : En} {W : WX} {X : Cx} {e a b : Expr} {pos : Pos} {f g fa fb : Ex}
theorem sim_v (i : Nat) : SimE N W (tVar i) (eV i) := fun M s σ H Q r q => by
  unfold eV at q
  split at q
  · rename_i d h
    obtain ⟨v, h1, h2⟩ := r.sv i d h
    exact ⟨v, h1, q.here r v h2⟩
  · rename_i l h
    obtain ⟨M', v, e, r', h1, h2⟩ := r.freeze h
    exact ⟨v, h1, q.at e r' v h2⟩
  · exact q.elim
theorem sim_vb (i : Nat) : SimB N W (tVar i) (eVB i) := fun M s σ H Q r q => by
  unfold eVB at q
  split at q
  · rename_i d h
    obtain ⟨v, h1, h2⟩ := r.sv i d h
    exact ⟨v, h1, q.here r v h2.rb⟩
  · rename_i l h
    obtain ⟨a, xs, h1, m, h2, h3⟩ := r.own i l h
    exact ⟨.ref a, h1, q.here r _ (.inr ⟨a, xs, l, i, rfl, rfl, m, h2, h3⟩)⟩
  · exact q.elim
end
end Z
/-! ## == of data -/
namespace Z
open PySem PySem.Spec L2 GxR
open PyProof.Rows hiding St
mutual
def D.py : D → PyData
  | .non => .none
  | .bl b => .bool b
  | .int i => .int i
  | .str n => .str (txt n)
  | .tup l => .tuple (D.pys l)
  | .lst l => .list (D.pys l)
  | .cell _ => .none
  | .scr _ => .none
  | .rng _ _ => .none
  | .dic _ => .none
  | .ft _ => .none
  | .fn _ => .none
def D.pys : List D → List PyData
  | [] => []
  | d :: l => D.py d :: D.pys l
end
mutual
/-- data that can be compared, of at most so many levels -/
def okD : Nat → D → Bool
  | _, .non => true
  | _, .bl _ => true
  | _, .int _ => true
  | _, .str n => decide (n < 70)
  | k + 1, .tup l => okDs k l
  | k + 1, .lst l => okDs k l
  | _, _ => false
def okDs : Nat → List D → Bool
  | _, [] => true
  | k, d :: l => okD k d && okDs k l
end
mutual
def eqD : D → D → Bool
  | .non, .non => true
  | .bl a, .bl b => a == b
  | .bl a, .int j => (if a then 1 else 0) == j
  | .int i, .bl b => i == (if b then 1 else 0)
  | .int i, .int j => i == j
  | .str x, .str y => x == y
  | .tup xs, .tup ys => eqDs xs ys
  | .lst xs, .lst ys => eqDs xs ys
  | _, _ => false
def eqDs : List D → List D → Bool
  | [], [] => true
  | x :: xs, y :: ys => eqD x y && eqDs xs ys
  | _, _ => false
end
theorem okDs_iff {k : Nat} : ∀ {l : List D}, okDs k l = true ↔ ∀ d ∈ l, okD k d = true
  | [] => by simp [okDs]
  | d :: l => by
    rw [okDs, Bool.and_eq_true, okDs_iff]
    simp
section
variable {K : PySem.W.Frag} {M : MM} {H : Hp}
mutual
theorem R.dp : ∀ (d : D) (k : Nat) (v : V), R K M H v d → okD k d = true → Dp K H v d.py
  | .non, _, _, .non, _ => by rw [D.py]; exact .non
  | .bl b, _, _, .bl _, _ => by rw [D.py]; exact .bl b
  | .int i, _, _, .int _, _ => by rw [D.py]; exact .int i
  | .str n, _, _, .str _, _ => by rw [D.py]; exact .str _
  | .tup l, 0, _, _, h => by rw [okD] at h; cases h; all_goals (intros; contradiction)
  | .lst l, 0, _, _, h => by rw [okD] at h; cases h; all_goals (intros; contradiction)
  | .tup l, k + 1, _, .tup h1 h2, h => by
    rw [D.py]
    rw [okD] at h
    exact .tup h1.sq (RA.dp l k _ h2 h)
  | .lst l, k + 1, _, .lst _ h1 h2, h => by
    rw [D.py]
    rw [okD] at h
    exact .lst (.of h1) (RA.dp l k _ h2 h)
  | .cell _, k, _, _, h => by cases k <;> simp [okD] at h
  | .scr _, k, _, _, h => by cases k <;> simp [okD] at h
  | .rng _ _, k, _, _, h => by cases k <;> simp [okD] at h
  | .fn _, k, _, _, h => by cases k <;> simp [okD] at h
  | .dic _, k, _, _, h => by cases k <;> simp [okD] at h
  | .ft _, k, _, _, h => by cases k <;> simp [okD] at h
theorem RA.dp : ∀ (l : List D) (k : Nat) (vs : List V), RA K M H vs l → okDs k l = true → DpAll K H vs (D.pys l)
  | [], _, _, .nil, _ => by rw [D.pys]; exact .nil
  | d :: l, k, _, .cons h1 h2, h => by
    rw [D.pys]
    rw [okDs, Bool.and_eq_true] at h
    exact .cons (R.dp d k _ h1 h.1) (RA.dp l k _ h2 h.2)
end
theorem RB.dp {d : D} {k : Nat} {v : V} (h : RB K M H v d) (o : okD k d = true) : Dp K H v d.py := by
  rcases h with h | ⟨a, xs, l, i, rfl, rfl, _, h1, h2⟩
  · exact h.dp d k v o
  · cases k with
    | zero => rw [okD] at o; cases o; all_goals (intros; contradiction)
    | succ k =>
      rw [okD] at o
      rw [D.py]
      exact .lst (.of h1) (RA.dp l k _ h2 o)
end
mutual
theorem okD_lay : ∀ (d : D) (k : Nat), okD k d = true → d.py.canLay0 = true ∧ d.py.depth ≤ k
  | .non, _, _ => by rw [D.py]; exact ⟨rfl, by simp [PyData.depth]⟩
  | .bl b, _, _ => by rw [D.py]; exact ⟨rfl, by simp [PyData.depth]⟩
  | .int i, _, _ => by rw [D.py]; exact ⟨rfl, by simp [PyData.depth]⟩
  | .str n, k, h => by
    have hn : n < 70 := by cases k <;> simpa [okD] using h
    rw [D.py]
    exact ⟨by simp [PyData.canLay0, txt_ok hn], by simp [PyData.depth]⟩
  | .tup l, 0, h => by rw [okD] at h; cases h; all_goals (intros; contradiction)
  | .lst l, 0, h => by rw [okD] at h; cases h; all_goals (intros; contradiction)
  | .tup l, k + 1, h => by
    rw [okD] at h
    obtain ⟨h1, h2⟩ := okDs_lay l k h
    rw [D.py]
    exact ⟨by simpa [PyData.canLay0] using h1, by simp only [PyData.depth]; omega⟩
  | .lst l, k + 1, h => by
    rw [okD] at h
    obtain ⟨h1, h2⟩ := okDs_lay l k h
    rw [D.py]
    exact ⟨by simpa [PyData.canLay0] using h1, by simp only [PyData.depth]; omega⟩
  | .cell _, k, h => by cases k <;> simp [okD] at h
  | .scr _, k, h => by cases k <;> simp [okD] at h
  | .rng _ _, k, h => by cases k <;> simp [okD] at h
  | .fn _, k, h => by cases k <;> simp [okD] at h
  | .dic _, k, h => by cases k <;> simp [okD] at h
  | .ft _, k, h => by cases k <;> simp [okD] at h
theorem okDs_lay : ∀ (l : List D) (k : Nat), okDs k l = true → PyData.canLayAll0 (D.pys l) = true ∧ PyData.depthAll (D.pys l) ≤ k
  | [], _, _ => by rw [D.pys]; exact ⟨rfl, by simp [PyData.depthAll]⟩
  | d :: l, k, h => by
    rw [okDs, Bool.and_eq_true] at h
    obtain ⟨a1, a2⟩ := okD_lay d k h.1
    obtain ⟨b1, b2⟩ := okDs_lay l k h.2
    rw [D.pys]
    exact ⟨by simp [PyData.canLayAll0, a1, b1], by simp only [PyData.depthAll]; omega⟩
end
theorem okD_shaped {d : D} {k : Nat} (h : okD k d = true) (hk : k ≤ 64) : SeqAt.shaped d.py = true := by
  obtain ⟨h1, h2⟩ := okD_lay d k h
  show (d.py.canLay0 && decide (d.py.depth ≤ 64)) = true
  rw [h1, decide_eq_true (by omega)]
  rfl
mutual
theorem eqD_py : ∀ (d e : D) (k j : Nat), okD k d = true → okD j e = true → PyData.eqv d.py e.py = eqD d e
  | .cell _, _, k, _, h, _ => by cases k <;> simp [okD] at h
  | .scr _, _, k, _, h, _ => by cases k <;> simp [okD] at h
  | .rng _ _, _, k, _, h, _ => by cases k <;> simp [okD] at h
  | .fn _, _, k, _, h, _ => by cases k <;> simp [okD] at h
  | .dic _, _, k, _, h, _ => by cases k <;> simp [okD] at h
  | .ft _, _, k, _, h, _ => by cases k <;> simp [okD] at h
  | _, .cell _, _, k, _, h => by cases k <;> simp [okD] at h
  | _, .scr _, _, k, _, h => by cases k <;> simp [okD] at h
  | _, .rng _ _, _, k, _, h => by cases k <;> simp [okD] at h
  | _, .fn _, _, k, _, h => by cases k <;> simp [okD] at h
  | _, .dic _, _, k, _, h => by cases k <;> simp [okD] at h
  | _, .ft _, _, k, _, h => by cases k <;> simp [okD] at h
  | .tup l, _, 0, _, h, _ => by rw [okD] at h; cases h; all_goals (intros; contradiction)
  | .lst l, _, 0, _, h, _ => by rw [okD] at h; cases h; all_goals (intros; contradiction)
  | _, .tup l, _, 0, _, h => by rw [okD] at h; cases h; all_goals (intros; contradiction)
  | _, .lst l, _, 0, _, h => by rw [okD] at h; cases h; all_goals (intros; contradiction)
  | .tup l, .tup m, k + 1, j + 1, h, h' => by
    rw [okD] at h h'
    rw [D.py, D.py, eqD, PyData.eqv]
    exact eqDs_py l m k j h h'
  | .lst l, .lst m, k + 1, j + 1, h, h' => by
    rw [okD] at h h'
    rw [D.py, D.py, eqD, PyData.eqv]
    exact eqDs_py l m k j h h'
  | .str n, .str m, k, j, h, h' => by
    have hn : n < 70 := by cases k <;> simpa [okD] using h
    have hm : m < 70 := by cases j <;> simpa [okD] using h'
    rw [D.py, D.py, eqD, PyData.eqv, ← txt_dec hn hm]
    rw [Bool.eq_iff_iff]
    simp
  | .non, e, _, j, _, h' => by cases e <;> first | (simp [D.py, eqD, PyData.eqv]; done) | (cases j <;> simp [okD] at h')
  | .bl b, e, _, _, _, _ => by cases e <;> simp [D.py, eqD, PyData.eqv]
  | .int b, e, _, _, _, _ => by cases e <;> simp [D.py, eqD, PyData.eqv]
  | .str n, .non, _, _, _, _ => by simp [D.py, eqD, PyData.eqv]
  | .str n, .bl _, _, _, _, _ => by simp [D.py, eqD, PyData.eqv]
  | .str n, .int _, _, _, _, _ => by simp [D.py, eqD, PyData.eqv]
  | .str n, .tup _, _, _, _, _ => by simp [D.py, eqD, PyData.eqv]
  | .str n, .lst _, _, _, _, _ => by simp [D.py, eqD, PyData.eqv]
  | .tup n, .non, _, _, _, _ => by simp [D.py, eqD, PyData.eqv]
  | .tup n, .bl _, _, _, _, _ => by simp [D.py, eqD, PyData.eqv]
  | .tup n, .int _, _, _, _, _ => by simp [D.py, eqD, PyData.eqv]
  | .tup n, .str _, _, _, _, _ => by simp [D.py, eqD, PyData.eqv]
  | .tup n, .lst _, _, _, _, _ => by simp [D.py, eqD, PyData.eqv]
  | .lst n, .non, _, _, _, _ => by simp [D.py, eqD, PyData.eqv]
  | .lst n, .bl _, _, _, _, _ => by simp [D.py, eqD, PyData.eqv]
  | .lst n, .int _, _, _, _, _ => by simp [D.py, eqD, PyData.eqv]
  | .lst n, .str _, _, _, _, _ => by simp [D.py, eqD, PyData.eqv]
  | .lst n, .tup _, _, _, _, _ => by simp [D.py, eqD, PyData.eqv]
theorem eqDs_py : ∀ (l m : List D) (k j : Nat), okDs k l = true → okDs j m = true → PyData.eqvAll (D.pys l) (D.pys m) = eqDs l m
  | [], [], _, _, _, _ => by simp [D.pys, eqDs, PyData.eqvAll]
  | [], _ :: _, _, _, _, _ => by simp [D.pys, eqDs, PyData.eqvAll]
  | _ :: _, [], _, _, _, _ => by simp [D.pys, eqDs, PyData.eqvAll]
  | d :: l, e :: m, k, j, h, h' => by
    rw [okDs, Bool.and_eq_true] at h h'
    rw [D.pys, D.pys, eqDs, PyData.eqvAll, eqD_py d e k j h.1 h'.1, eqDs_py l m k j h.2 h'.2]
end
/-- x in l -/
def inD (x : D) (l : List D) : Bool := l.any fun z => eqD z x
theorem inD_py {x : D} {k j : Nat} (hx : okD j x = true) : ∀ {l : List D}, okDs k l = true → ((D.pys l).any fun z => PyData.eqv z x.py) = inD x l
  | [], _ => by simp [D.pys, inD]
  | d :: l, h => by
    rw [okDs, Bool.and_eq_true] at h
    have ih := inD_py hx h.2
    rw [D.pys, List.any_cons, eqD_py d x k j h.1 hx, ih]
    rfl
end Z
/-! ## operators by values -/
namespace Z
open PySem PySem.Spec L2 GxR
open PyProof.Rows hiding St
def OpSim (N : En) (r : R2) (g : D → D → Option D) : Prop :=
  ∀ (M : MM) (H : Hp) (cs : List Cell) (x y : V) (d e z : D) (Q : VK), RelC N M cs H → RB N.K M H x d → RB N.K M H y e → g d e = some z → (∀ H' v, Same H H' → R N.K M H' v z → Q v H') → r x y H Q
def addD : D → D → Option D
  | .int i, .int j => some (.int (i + j))
  | .tup a, .tup b => if a.length + b.length ≤ 100000 then some (.tup (a ++ b)) else none
  | .lst a, .lst b => if a.length + b.length ≤ 100000 then some (.lst (a ++ b)) else none
  | _, _ => none
def subD : D → D → Option D
  | .int i, .int j => some (.int (i - j))
  | _, _ => none
def mulD : D → D → Option D
  | .int i, .int j => if (-(2 ^ 64) < i ∧ i < 2 ^ 64) ∨ (-(2 ^ 64) < j ∧ j < 2 ^ 64) then some (.int (i * j)) else none
  | .lst a, .int j => if -(2 ^ 63) ≤ j ∧ j < 2 ^ 63 ∧ a.length * j.toNat ≤ 100000 then some (.lst (List.replicate j.toNat a).flatten) else none
  | .tup a, .int j => if a ≠ [] ∧ 2 ≤ j ∧ j ≤ 1000 ∧ a.length ≤ 1000 then some (.tup (List.replicate j.toNat a).flatten) else none
  | _, _ => none
def modD : D → D → Option D
  | .int i, .int j => if 0 < j then some (.int (i % j)) else none
  | _, _ => none
def fdivD : D → D → Option D
  | .int i, .int j => if 0 < j ∧ j < 1073741824 then some (.int (i / j)) else none
  | _, _ => none
def powD : D → D → Option D
  | .int i, .int j => if 0 ≤ j ∧ j ≤ 1000000 ∧ i.natAbs < 2 ^ 64 then some (.int (i ^ j.toNat)) else none
  | _, _ => none
def eqOp (d e : D) : Option D := if okD 60 d && okD 60 e then some (.bl (eqD d e)) else none
def neOp (d e : D) : Option D := if okD 60 d && okD 60 e then some (.bl (!eqD d e)) else none
def ltD : D → D → Option D
  | .int i, .int j => some (.bl (decide (i < j)))
  | _, _ => none
def leD : D → D → Option D
  | .int i, .int j => some (.bl (decide (i ≤ j)))
  | _, _ => none
def gtD : D → D → Option D
  | .int i, .int j => some (.bl (decide (j < i)))
  | _, _ => none
def geD : D → D → Option D
  | .int i, .int j => some (.bl (decide (j ≤ i)))
  | _, _ => none
def inOp (x : D) : D → Option D
  | .tup l => if okD 60 x && okDs 60 l then some (.bl (inD x l)) else none
  | .lst l => if okD 60 x && okDs 60 l then some (.bl (inD x l)) else none
  | _ => none
def notInOp (x : D) : D → Option D
  | .tup l => if okD 60 x && okDs 60 l then some (.bl (!inD x l)) else none
  | .lst l => if okD 60 x && okDs 60 l then some (.bl (!inD x l)) else none
  | _ => none
def isNon : D → Bool
  | .non => true
  | _ => false
def isNOp (d : D) : D → Option D
  | .non => some (.bl (isNon d))
  | _ => none
def notNOp (d : D) : D → Option D
  | .non => some (.bl (!isNon d))
  | _ => none
def ixD : D → D → Option D
  | .tup l, .int i => atI l i
  | .lst l, .int i => atI l i
  | _, _ => none
section
variable {N : En} {K : PySem.W.Frag} {M : MM} {H : Hp}
theorem len_line {n : Nat} (h : n ≤ 100000) : n ≤ sizeLine := Nat.le_trans h (by decide)
theorem lt_line {n : Nat} (h : n < 100000) : n < sizeLine := Nat.lt_of_lt_of_le h (by decide)
theorem RB.int {v : V} {i : Int} (h : RB K M H v (.int i)) : v = .int i := by
  rcases h with h | ⟨a, xs, l, i, rfl, e, _⟩
  · cases h; rfl
  · cases e
theorem RB.bl {v : V} {i : Bool} (h : RB K M H v (.bl i)) : v = .bl i := by
  rcases h with h | ⟨a, xs, l, i, rfl, e, _⟩
  · cases h; rfl
  · cases e
theorem RB.non {v : V} (h : RB K M H v .non) : v = .non := by
  rcases h with h | ⟨a, xs, l, i, rfl, e, _⟩
  · cases h; rfl
  · cases e
theorem RB.non_iff {v : V} {d : D} (h : RB K M H v d) : decide (v = .non) = isNon d := by
  rcases h with h | ⟨a, xs, l, i, rfl, rfl, _⟩
  · cases h <;> simp [isNon]
  · simp [isNon]
theorem RelC.newTup {cs : List Cell} (r : RelC N M cs H) {p : Addr} {xs : List V} {ds : List D} (h : H p = none) (q : RA N.K M H xs ds) : R N.K M (upd H p (.tup xs)) (.ref p) (.tup ds) :=
  .tup (.inl ⟨r.fresh h, .inl upd_same⟩) ((r.ext (Same.upd h)).ra q)
theorem RelC.newLst {cs : List Cell} (r : RelC N M cs H) {p : Addr} {xs : List V} {ds : List D} (h : H p = none) (q : RA N.K M H xs ds) : R N.K M (upd H p (.lst xs)) (.ref p) (.lst ds) :=
  .lst (r.fresh h) upd_same ((r.ext (Same.upd h)).ra q)
theorem RA.rep {xs : List V} {ds : List D} (q : RA K M H xs ds) : ∀ n : Nat, RA K M H (List.replicate n xs).flatten (List.replicate n ds).flatten
  | 0 => by simp only [List.replicate_zero, List.flatten_nil]; exact .nil
  | n + 1 => by
    simp only [List.replicate_succ, List.flatten_cons]
    exact q.append (q.rep n)
theorem RA.nil_iff {xs : List V} {ds : List D} (q : RA K M H xs ds) : xs = [] ↔ ds = [] := by
  cases q <;> simp
theorem sim_add : OpSim N (fun x y H Q => rI0 (fun i j => .int (i + j)) x y H Q ∨ (rCatA N.K x y H Q ∨ rCat x y H Q)) addD := by
  intro M H cs x y d e z Q rc hx hy hg q
  unfold addD at hg
  split at hg
  · cases hg
    exact .inl ⟨_, _, hx.int, hy.int, q _ _ (Same.refl _) (.int _)⟩
  · split at hg
    · rename_i hl
      cases hg
      obtain ⟨a, xs, rfl, h1, h2⟩ := hx.tup
      obtain ⟨b, ys, rfl, h3, h4⟩ := hy.tup
      refine .inr (.inl ⟨a, b, xs, ys, rfl, rfl, h1.sq, h3.sq, len_line (by rw [h2.length, h4.length]; exact hl), fun e => ?_, fun _ e => ?_, fun _ _ p np => ?_⟩)
      · subst e
        cases h2
        exact q _ _ (Same.refl _) (.tup h3 h4)
      · subst e
        cases h4
        rw [List.append_nil] at q
        exact q _ _ (Same.refl _) (.tup h1 h2)
      · exact q _ _ (Same.upd np) (rc.newTup np (h2.append h4))
    · cases hg
  · split at hg
    · rename_i hl
      cases hg
      obtain ⟨a, xs, rfl, h1, h2⟩ := hx.list
      obtain ⟨b, ys, rfl, h3, h4⟩ := hy.list
      exact .inr (.inr ⟨a, b, xs, ys, rfl, rfl, h1, h3, len_line (by rw [h2.length, h4.length]; exact hl), fun p np => q _ _ (Same.upd np) (rc.newLst np (h2.append h4))⟩)
    · cases hg
  · cases hg
theorem sim_sub : OpSim N (rI0 fun i j => .int (i - j)) subD := by
  intro M H cs x y d e z Q rc hx hy hg q
  unfold subD at hg
  split at hg
  · cases hg
    exact ⟨_, _, hx.int, hy.int, q _ _ (Same.refl _) (.int _)⟩
  · cases hg
theorem sim_mul : OpSim N (fun x y H Q => rI CMul (fun i j => .int (i * j)) x y H Q ∨ (rRep x y H Q ∨ rRepT N.K x y H Q)) mulD := by
  intro M H cs x y d e z Q rc hx hy hg q
  unfold mulD at hg
  split at hg
  · split at hg
    · rename_i hc
      cases hg
      exact .inl ⟨_, _, hx.int, hy.int, hc, q _ _ (Same.refl _) (.int _)⟩
    · cases hg
  · split at hg
    · rename_i hc
      cases hg
      obtain ⟨a, xs, rfl, h1, h2⟩ := hx.list
      have e2 := hy.int
      subst e2
      refine .inr (.inl ⟨a, _, xs, rfl, rfl, h1, hc.1, hc.2.1, len_line (by rw [h2.length]; exact hc.2.2), ?_⟩)
      exact fun p np => q _ _ (Same.upd np) (rc.newLst np (h2.rep _))
    · cases hg
  · split at hg
    · rename_i hc
      cases hg
      obtain ⟨a, xs, rfl, h1, h2⟩ := hx.tup
      have e2 := hy.int
      subst e2
      refine .inr (.inr ⟨a, _, xs, rfl, rfl, h1.sq, fun z => hc.1 (h2.nil_iff.mp z), hc.2.1, hc.2.2.1, by rw [h2.length]; exact hc.2.2.2, ?_⟩)
      exact fun p np => q _ _ (Same.upd np) (rc.newTup np (h2.rep _))
    · cases hg
  · cases hg
theorem sim_mod : OpSim N (rI (fun _ j => 0 < j) fun i j => .int (i % j)) modD := by
  intro M H cs x y d e z Q rc hx hy hg q
  unfold modD at hg
  split at hg
  · split at hg
    · rename_i hc
      cases hg
      exact ⟨_, _, hx.int, hy.int, hc, q _ _ (Same.refl _) (.int _)⟩
    · cases hg
  · cases hg
theorem sim_fdiv : OpSim N (rI CDiv fun i j => .int (i / j)) fdivD := by
  intro M H cs x y d e z Q rc hx hy hg q
  unfold fdivD at hg
  split at hg
  · split at hg
    · rename_i hc
      cases hg
      exact ⟨_, _, hx.int, hy.int, hc, q _ _ (Same.refl _) (.int _)⟩
    · cases hg
  · cases hg
theorem sim_pow : OpSim N (rI CPow fun i j => .int (i ^ j.toNat)) powD := by
  intro M H cs x y d e z Q rc hx hy hg q
  unfold powD at hg
  split at hg
  · split at hg
    · rename_i hc
      cases hg
      exact ⟨_, _, hx.int, hy.int, hc, q _ _ (Same.refl _) (.int _)⟩
    · cases hg
  · cases hg
theorem sim_eq : OpSim N (rEqD N.K) eqOp := by
  intro M H cs x y d e z Q rc hx hy hg q
  unfold eqOp at hg
  split at hg
  · rename_i hc
    rw [Bool.and_eq_true] at hc
    cases hg
    refine ⟨d.py, e.py, hx.dp hc.1, hy.dp hc.2, okD_shaped hc.1 (by decide), okD_shaped hc.2 (by decide), ?_⟩
    rw [eqD_py d e _ _ hc.1 hc.2]
    exact q _ _ (Same.refl _) (.bl _)
  · cases hg
theorem sim_ne : OpSim N (rNeD N.K) neOp := by
  intro M H cs x y d e z Q rc hx hy hg q
  unfold neOp at hg
  split at hg
  · rename_i hc
    rw [Bool.and_eq_true] at hc
    cases hg
    refine ⟨d.py, e.py, hx.dp hc.1, hy.dp hc.2, okD_shaped hc.1 (by decide), okD_shaped hc.2 (by decide), ?_⟩
    rw [eqD_py d e _ _ hc.1 hc.2]
    exact q _ _ (Same.refl _) (.bl _)
  · cases hg
theorem sim_lt : OpSim N (rI0 fun i j => .bl (decide (i < j))) ltD := by
  intro M H cs x y d e z Q rc hx hy hg q
  unfold ltD at hg
  split at hg
  · cases hg
    exact ⟨_, _, hx.int, hy.int, q _ _ (Same.refl _) (.bl _)⟩
  · cases hg
theorem sim_le : OpSim N (rI0 fun i j => .bl (decide (i ≤ j))) leD := by
  intro M H cs x y d e z Q rc hx hy hg q
  unfold leD at hg
  split at hg
  · cases hg
    exact ⟨_, _, hx.int, hy.int, q _ _ (Same.refl _) (.bl _)⟩
  · cases hg
theorem sim_gt : OpSim N (rI0 fun i j => .bl (decide (j < i))) gtD := by
  intro M H cs x y d e z Q rc hx hy hg q
  unfold gtD at hg
  split at hg
  · cases hg
    exact ⟨_, _, hx.int, hy.int, q _ _ (Same.refl _) (.bl _)⟩
  · cases hg
theorem sim_ge : OpSim N (rI0 fun i j => .bl (decide (j ≤ i))) geD := by
  intro M H cs x y d e z Q rc hx hy hg q
  unfold geD at hg
  split at hg
  · cases hg
    exact ⟨_, _, hx.int, hy.int, q _ _ (Same.refl _) (.bl _)⟩
  · cases hg
/-- x in t, x in l: any data -/
def rInA (K : PySem.W.Frag) (neg : Bool) : R2 := fun x y H Q => ∃ d ds, Dp K H x d ∧ (Dp K H y (.tuple ds) ∨ Dp K H y (.list ds)) ∧ SeqAt.shaped d = true ∧ SeqAt.shaped (.tuple ds) = true ∧ Q (.bl (if neg then !(ds.any fun z => PyData.eqv z d) else ds.any fun z => PyData.eqv z d)) H
theorem op_inA {X : Cx} (hK : X.K = N.K) (hu : X.A.units + 65 < cLine) : OpR X (compareOp .In) (rInA N.K false) := by
  intro pins s σ H x y v u Q I rx ry h
  rw [← hK] at h
  obtain ⟨d, ds, hd, he, sd, se, q⟩ := h
  obtain ⟨as, r1⟩ := Dp.reads I d x v hd rx
  rcases he with he | he
  · obtain ⟨bs, r2⟩ := Dp.reads I (.tuple ds) y u he ry
    exact SeqAt.in_tuple_reads r2 r1 (SeqAt.canLay_of_shaped se) (SeqAt.canLay_of_shaped sd) (PyProof.Rows.room_in_shaped sd hu) ⟨.bl _, H, I, rfl, q⟩
  · obtain ⟨bs, r2⟩ := Dp.reads I (.list ds) y u he ry
    exact SeqAt.in_list_reads r2 r1 (SeqAt.canLay_of_shaped (d := .list ds) se) (SeqAt.canLay_of_shaped sd) (PyProof.Rows.room_in_shaped sd hu) ⟨.bl _, H, I, rfl, q⟩
theorem op_notInA {X : Cx} (hK : X.K = N.K) (hu : X.A.units + 65 < cLine) : OpR X (compareOp .NotIn) (rInA N.K true) := by
  intro pins s σ H x y v u Q I rx ry h
  rw [← hK] at h
  obtain ⟨d, ds, hd, he, sd, se, q⟩ := h
  obtain ⟨as, r1⟩ := Dp.reads I d x v hd rx
  rcases he with he | he
  · obtain ⟨bs, r2⟩ := Dp.reads I (.tuple ds) y u he ry
    exact SeqAt.notIn_tuple_reads r2 r1 (SeqAt.canLay_of_shaped se) (SeqAt.canLay_of_shaped sd) (PyProof.Rows.room_in_shaped sd hu) ⟨.bl _, H, I, rfl, q⟩
  · obtain ⟨bs, r2⟩ := Dp.reads I (.list ds) y u he ry
    exact SeqAt.notIn_list_reads r2 r1 (SeqAt.canLay_of_shaped (d := .list ds) se) (SeqAt.canLay_of_shaped sd) (PyProof.Rows.room_in_shaped sd hu) ⟨.bl _, H, I, rfl, q⟩
theorem shaped_seq {l : List D} (h : okDs 60 l = true) : SeqAt.shaped (.tuple (D.pys l)) = true := by
  have : okD 61 (.tup l) = true := by rw [okD]; exact h
  have := okD_shaped this (by decide)
  rw [D.py] at this
  exact this
theorem RB.seq {x : V} {d : D} {l : List D} (h : RB K M H x d) (o : okDs 60 l = true) (e : d = .tup l ∨ d = .lst l) : Dp K H x (.tuple (D.pys l)) ∨ Dp K H x (.list (D.pys l)) := by
  rcases e with rfl | rfl
  · have := h.dp (k := 61) (by rw [okD]; exact o)
    rw [D.py] at this
    exact .inl this
  · have := h.dp (k := 61) (by rw [okD]; exact o)
    rw [D.py] at this
    exact .inr this
theorem sim_in : OpSim N (rInA N.K false) inOp := by
  intro M H cs x y d e z Q rc hx hy hg q
  unfold inOp at hg
  split at hg <;> first | (cases hg; done) | skip
  all_goals
    split at hg
    · rename_i l hc
      rw [Bool.and_eq_true] at hc
      cases hg
      refine ⟨d.py, D.pys l, hx.dp hc.1, hy.seq hc.2 (by first | exact .inl rfl | exact .inr rfl), okD_shaped hc.1 (by decide), shaped_seq hc.2, ?_⟩
      rw [inD_py hc.1 hc.2]
      exact q _ _ (Same.refl _) (.bl _)
    · cases hg
theorem sim_notIn : OpSim N (rInA N.K true) notInOp := by
  intro M H cs x y d e z Q rc hx hy hg q
  unfold notInOp at hg
  split at hg <;> first | (cases hg; done) | skip
  all_goals
    split at hg
    · rename_i l hc
      rw [Bool.and_eq_true] at hc
      cases hg
      refine ⟨d.py, D.pys l, hx.dp hc.1, hy.seq hc.2 (by first | exact .inl rfl | exact .inr rfl), okD_shaped hc.1 (by decide), shaped_seq hc.2, ?_⟩
      rw [inD_py hc.1 hc.2]
      exact q _ _ (Same.refl _) (.bl _)
    · cases hg
theorem sim_isN : OpSim N (fun x y H Q => y = .non ∧ Q (.bl (decide (x = .non))) H) isNOp := by
  intro M H cs x y d e z Q rc hx hy hg q
  unfold isNOp at hg
  split at hg
  · cases hg
    refine ⟨hy.non, ?_⟩
    rw [hx.non_iff]
    exact q _ _ (Same.refl _) (.bl _)
  · cases hg
theorem sim_notN : OpSim N (fun x y H Q => y = .non ∧ Q (.bl (!decide (x = .non))) H) notNOp := by
  intro M H cs x y d e z Q rc hx hy hg q
  unfold notNOp at hg
  split at hg
  · cases hg
    refine ⟨hy.non, ?_⟩
    rw [hx.non_iff]
    exact q _ _ (Same.refl _) (.bl _)
  · cases hg
theorem RA.at {xs : List V} {ds : List D} {i : Int} {d : D} (q : RA K M H xs ds) (h : atI ds i = some d) : ∃ v, atI xs i = some v ∧ R K M H v d := by
  unfold atI at h ⊢
  rw [q.length]
  cases e : ixN ds.length i with
  | none => rw [e] at h; cases h
  | some j =>
    rw [e] at h
    exact q.get h
theorem sim_ix : OpSim N (rIx N.K) ixD := by
  intro M H cs x y d e z Q rc hx hy hg q
  unfold ixD at hg
  split at hg
  · obtain ⟨a, xs, rfl, h1, h2⟩ := hx.tup
    have e2 := hy.int
    subst e2
    obtain ⟨v, k1, k2⟩ := h2.at hg
    exact .inr (.inl ⟨a, xs, _, v, rfl, rfl, h1.sq, k1, q _ _ (Same.refl _) k2⟩)
  · obtain ⟨a, xs, rfl, h1, h2⟩ := hx.list
    have e2 := hy.int
    subst e2
    obtain ⟨v, k1, k2⟩ := h2.at hg
    exact .inl ⟨a, xs, _, v, rfl, rfl, .of h1, k1, q _ _ (Same.refl _) k2⟩
  · cases hg
end
end Z
/-! ## expressions -/
namespace Z
open PySem PySem.Spec L2 GxR
open PyProof.Rows hiding St
def lift (r : Option D) (s : S) : Res D := match r with
  | some z => .ok z s
  | none => .stuck
def eOp (g : D → D → Option D) (fa fb : Ex) : Ex := fun s => (fa s).bind fun x s1 => (fb s1).bind fun y s2 => lift (g x y) s2
/-- the left side is the name in slot i: read when the right side is there -/
def slotD (i : Nat) (s : S) : Option D := match s.ρ[i]? with
  | some (.sv d) => some d
  | some (.own l) => some (.lst l)
  | _ => none
def eOpL (g : D → D → Option D) (i : Nat) (fb : Ex) : Ex := fun s => match slotD i s with
  | some _ => (fb s).bind fun y s2 => (match slotD i s2 with
    | some x => lift (g x y) s2
    | none => .stuck)
  | none => .stuck
def eNot (f : Ex) : Ex := fun s => (f s).bind fun x s1 => match x with
  | .bl b => .ok (.bl (!b)) s1
  | _ => .stuck
def eNeg (f : Ex) : Ex := fun s => (f s).bind fun x s1 => match x with
  | .int b => .ok (.int (-b)) s1
  | _ => .stuck
def eAnd (f g : Ex) : Ex := fun s => (f s).bind fun x s1 => match x with
  | .bl true => g s1
  | .bl false => .ok (.bl false) s1
  | _ => .stuck
def eOr (f g : Ex) : Ex := fun s => (f s).bind fun x s1 => match x with
  | .bl true => .ok (.bl true) s1
  | .bl false => g s1
  | _ => .stuck
def eIf (t : Ts) (f g : Ex) : Ex := fun s => (t s).bind fun b s1 => if b = true then f s1 else g s1
def eChain (g g' : D → D → Option D) (fa fb fc : Ex) : Ex := fun s => (fa s).bind fun x s1 => (fb s1).bind fun y s2 => match g x y with
  | some (.bl true) => (fc s2).bind fun z s3 => lift (g' y z) s3
  | some (.bl false) => .ok (.bl false) s2
  | _ => .stuck
def tV (f : Ex) : Ts := fun s => (f s).bind fun x s1 => match x with
  | .bl b => .ok b s1
  | _ => .stuck
def tN (t : Ts) : Ts := fun s => (t s).bind fun b s1 => .ok (!b) s1
def tA (t u : Ts) : Ts := fun s => (t s).bind fun b s1 => if b = true then u s1 else .ok false s1
def tO (t u : Ts) : Ts := fun s => (t s).bind fun b s1 => if b = true then .ok true s1 else u s1
/-- truth -/
def truD : D → Option Bool
  | .non => some false
  | .bl b => some b
  | .int i => some (i != 0)
  | .tup l => some (!l.isEmpty)
  | .lst l => some (!l.isEmpty)
  | _ => none
def tU (f : Ex) : Ts := fun s => (f s).bind fun x s1 => match truD x with
  | some b => .ok b s1
  | none => .stuck
def aNil : As := fun s => .ok [] s
def aCons (f : Ex) (g : As) : As := fun s => (f s).bind fun x s1 => (g s1).bind fun xs s2 => .ok (x :: xs) s2
def eTup (f : As) : Ex := fun s => (f s).bind fun ds s1 => .ok (.tup ds) s1
def eF (f : As) : Ex := fun s => (f s).bind fun ds s1 => .ok (.lst ds) s1
section
variable {N : En} {W : WX} {X : Cx} {e a b c : Expr} {es rest : List Expr} {pos : Pos} {f g fa fb fc : Ex} {t u : Ts} {fs : As} {r r' : R2} {G G' : D → D → Option D}
theorem GoodE.lift {σ : St} {M : MM} {H : Hp} {o : Option D} {s : S} {Φ : MM → Hp → D → S → Prop} (h : GoodE N W σ M H (Z.lift o s) Φ) (q : Rel N M s σ H) : ∃ z, o = some z ∧ Φ M H z s := by
  cases o with
  | none => exact h.elim
  | some z => exact ⟨z, rfl, h.here q⟩
/-- a rule's end: the value came, the heap may have grown -/
theorem GoodE.grown {σ : St} {M : MM} {H H' : Hp} {z : D} {s : S} {Φ : MM → Hp → D → S → Prop} (h : GoodE N W σ M H (.ok z s) Φ) (q : Rel N M s σ H) (k : Same H H') : Φ M H' z s := h.at (q.ext k) (q.same k)
theorem sim_op (hr : OpSim N r G) {ta tb : TE} (ha : SimE N W ta fa) (hb : SimB N W tb fb) : SimE N W (tOp r ta tb) (eOp G fa fb) := fun M s σ H Q rl q => by
  refine ha M s σ H _ rl (q.bind.imp fun M1 H1 x s1 e1 r1 q1 v1 h1 => ?_)
  refine hb M1 s1 σ H1 _ r1 (q1.bind.imp fun M2 H2 y s2 e2 r2 q2 v2 h2 => ?_)
  cases hz : G x y with
  | none => rw [hz] at q2; exact q2.elim
  | some z =>
    rw [hz] at q2
    exact hr M2 H2 s2.cs v1 v2 x y z Q r2.toRelC (e2.r h1).rb h2 hz fun H3 v3 k h3 => q2.grown r2 k v3 h3
theorem slot_rb {M : MM} {s : S} {σ : St} {H : Hp} {i : Nat} {d : D} (rl : Rel N M s σ H) (h : slotD i s = some d) : ∃ v, σ[i]? = some (some v) ∧ RB N.K M H v d := by
  unfold slotD at h
  split at h
  · rename_i d' h1
    cases h
    obtain ⟨v, k1, k2⟩ := rl.sv i _ h1
    exact ⟨v, k1, k2.rb⟩
  · rename_i l h1
    cases h
    obtain ⟨a, xs, k1, m, k2, k3⟩ := rl.own i _ h1
    exact ⟨_, k1, .inr ⟨a, xs, l, i, rfl, rfl, m, k2, k3⟩⟩
  · cases h
theorem sim_opL (hr : OpSim N r G) {i : Nat} {tb : TE} (hb : SimB N W tb fb) : SimE N W (tOp r (tVar i) tb) (eOpL G i fb) := fun M s σ H Q rl q => by
  unfold eOpL at q
  split at q
  · rename_i d0 h0
    obtain ⟨v, k1, _⟩ := slot_rb rl h0
    refine ⟨v, k1, ?_⟩
    refine hb M s σ H _ rl (q.bind.imp fun M2 H2 y s2 e2 r2 q2 v2 h2 => ?_)
    split at q2
    · rename_i x hx
      obtain ⟨v', k1', k2⟩ := slot_rb r2 hx
      rw [k1] at k1'
      cases k1'
      cases hz : G x y with
      | none => rw [hz] at q2; exact q2.elim
      | some z =>
        rw [hz] at q2
        exact hr M2 H2 s2.cs v v2 x y z Q r2.toRelC k2 h2 hz fun H3 v3 k h3 => q2.grown r2 k v3 h3
    · exact q2.elim
  · exact q.elim
theorem se_op {op : Operator} (ho : OpR X (binaryOp op) r) (hr : OpSim N r G) (ha : SE N W X a fa) (hb : SB N W X b fb) : SE N W X (.BinOp a op b pos) (eOp G fa fb) := by
  obtain ⟨ta, pa, sa⟩ := ha
  obtain ⟨tb, pb, sb⟩ := hb
  exact ⟨_, pe_op ho pa pb, sim_op hr sa sb⟩
theorem se_opL {op : Operator} {i : Nat} (ho : OpR X (binaryOp op) r) (hr : OpSim N r G) (pa : PE X a (tVar i)) (hb : SB N W X b fb) : SE N W X (.BinOp a op b pos) (eOpL G i fb) := by
  obtain ⟨tb, pb, sb⟩ := hb
  exact ⟨_, pe_op ho pa pb, sim_opL hr sb⟩
theorem se_cmp {op : CmpOp} (ho : OpR X (compareOp op) r) (hr : OpSim N r G) (ha : SE N W X a fa) (hb : SB N W X b fb) (hm : behindInMarks op b = false) : SE N W X (.Compare a [op] [b] pos) (eOp G fa fb) := by
  obtain ⟨ta, pa, sa⟩ := ha
  obtain ⟨tb, pb, sb⟩ := hb
  exact ⟨_, pe_cmpR ho pa pb hm, sim_op hr sa sb⟩
theorem se_cmpL {op : CmpOp} {i : Nat} (ho : OpR X (compareOp op) r) (hr : OpSim N r G) (pa : PE X a (tVar i)) (hb : SB N W X b fb) (hm : behindInMarks op b = false) : SE N W X (.Compare a [op] [b] pos) (eOpL G i fb) := by
  obtain ⟨tb, pb, sb⟩ := hb
  exact ⟨_, pe_cmpR ho pa pb hm, sim_opL hr sb⟩
theorem se_ix (ho : IxR X r) (hr : OpSim N r G) (ha : SE N W X a fa) (hb : SB N W X b fb) (hs : PlainIx b) : SE N W X (.Subscript a b pos) (eOp G fa fb) := by
  obtain ⟨ta, pa, sa⟩ := ha
  obtain ⟨tb, pb, sb⟩ := hb
  exact ⟨_, pe_ix ho pa pb hs, sim_op hr sa sb⟩
theorem se_ixL {i : Nat} (ho : IxR X r) (hr : OpSim N r G) (pa : PE X a (tVar i)) (hb : SB N W X b fb) (hs : PlainIx b) : SE N W X (.Subscript a b pos) (eOpL G i fb) := by
  obtain ⟨tb, pb, sb⟩ := hb
  exact ⟨_, pe_ix ho pa pb hs, sim_opL hr sb⟩
theorem se_not (ha : SE N W X a fa) : SE N W X (.UnaryOp .Not a pos) (eNot fa) := by
  obtain ⟨ta, pa, sa⟩ := ha
  refine ⟨_, pe_not pa, fun M s σ H Q rl q => sa M s σ H _ rl (q.bind.imp fun M1 H1 x s1 e1 r1 q1 v1 h1 => ?_)⟩
  split at q1
  · cases h1
    exact ⟨_, rfl, q1.here r1 _ (.bl _)⟩
  · exact q1.elim
theorem se_neg (ha : SE N W X a fa) : SE N W X (.UnaryOp .USub a pos) (eNeg fa) := by
  obtain ⟨ta, pa, sa⟩ := ha
  refine ⟨_, pe_un un_neg pa, fun M s σ H Q rl q => sa M s σ H _ rl (q.bind.imp fun M1 H1 x s1 e1 r1 q1 v1 h1 => ?_)⟩
  split at q1
  · cases h1
    exact ⟨_, rfl, q1.here r1 _ (.int _)⟩
  · exact q1.elim
theorem se_one {op : BoolOp} (ha : SE N W X a fa) : SE N W X (.BoolOp op [a] pos) fa := by
  obtain ⟨ta, pa, sa⟩ := ha
  exact ⟨_, pe_one pa, sa⟩
theorem se_and (ha : SE N W X a fa) (hb : SE N W X (.BoolOp .And (b :: rest) pos) fb) : SE N W X (.BoolOp .And (a :: b :: rest) pos) (eAnd fa fb) := by
  obtain ⟨ta, pa, sa⟩ := ha
  obtain ⟨tb, pb, sb⟩ := hb
  refine ⟨_, pe_and pa pb, fun M s σ H Q rl q => sa M s σ H _ rl (q.bind.imp fun M1 H1 x s1 e1 r1 q1 v1 h1 => ?_)⟩
  split at q1
  · cases h1
    exact ⟨_, rfl, iteT (sb M1 s1 σ H1 _ r1 q1)⟩
  · cases h1
    exact ⟨_, rfl, iteF (q1.here r1 _ (.bl _))⟩
  · exact q1.elim
theorem se_or (ha : SE N W X a fa) (hb : SE N W X (.BoolOp .Or (b :: rest) pos) fb) : SE N W X (.BoolOp .Or (a :: b :: rest) pos) (eOr fa fb) := by
  obtain ⟨ta, pa, sa⟩ := ha
  obtain ⟨tb, pb, sb⟩ := hb
  refine ⟨_, pe_or pa pb, fun M s σ H Q rl q => sa M s σ H _ rl (q.bind.imp fun M1 H1 x s1 e1 r1 q1 v1 h1 => ?_)⟩
  split at q1
  · cases h1
    exact ⟨_, rfl, iteT (q1.here r1 _ (.bl _))⟩
  · cases h1
    exact ⟨_, rfl, iteF (sb M1 s1 σ H1 _ r1 q1)⟩
  · exact q1.elim
theorem se_if (ht : ST N W X c t) (ha : SE N W X a fa) (hb : SE N W X b fb) : SE N W X (.IfExp c a b pos) (eIf t fa fb) := by
  obtain ⟨tc, pc, sc⟩ := ht
  obtain ⟨ta, pa, sa⟩ := ha
  obtain ⟨tb, pb, sb⟩ := hb
  refine ⟨_, pe_ifExp pc pa pb, fun M s σ H Q rl q => sc M s σ H _ rl (q.bind.imp fun M1 H1 x s1 e1 r1 q1 => ?_)⟩
  cases x with
  | true => exact iteT (sa M1 s1 σ H1 _ r1 q1)
  | false => exact iteF (sb M1 s1 σ H1 _ r1 q1)
theorem sim_chain (hr : OpSim N r G) (hr' : OpSim N r' G') {ta tb tc : TE} (ha : SimE N W ta fa) (hb : SimE N W tb fb) (hc : SimB N W tc fc) : SimE N W (tChain r r' ta tb tc) (eChain G G' fa fb fc) := fun M s σ H Q rl q => by
  refine ha M s σ H _ rl (q.bind.imp fun M1 H1 x s1 e1 r1 q1 v1 h1 => ?_)
  refine hb M1 s1 σ H1 _ r1 (q1.bind.imp fun M2 H2 y s2 e2 r2 q2 v2 h2 => ?_)
  split at q2
  · rename_i hz
    refine hr M2 H2 s2.cs v1 v2 x y _ _ r2.toRelC (e2.r h1).rb h2.rb hz fun H3 v3 k h3 => ?_
    cases h3
    refine ⟨_, rfl, iteT ?_⟩
    refine hc M2 s2 σ H3 _ (r2.same k) ((GoodE.rebase q2 (r2.ext k)).bind.imp fun M4 H4 w s4 e4 r4 q4 v4 h4 => ?_)
    cases hw : G' y w with
    | none => rw [hw] at q4; exact q4.elim
    | some z =>
      rw [hw] at q4
      exact hr' M4 H4 s4.cs v2 v4 y w z Q r4.toRelC (e4.r ((r2.ext k).r h2)).rb h4 hw fun H5 v5 k5 h5 => q4.grown r4 k5 v5 h5
  · rename_i hz
    refine hr M2 H2 s2.cs v1 v2 x y _ _ r2.toRelC (e2.r h1).rb h2.rb hz fun H3 v3 k h3 => ?_
    cases h3
    exact ⟨_, rfl, iteF (q2.grown r2 k _ (.bl _))⟩
  · exact q2.elim
theorem se_chain {op op' : CmpOp} (ho : OpR X (compareOp op) r) (hr : OpSim N r G) (ho' : OpR X (compareOp op') r') (hr' : OpSim N r' G') (ha : SE N W X a fa) (hb : SE N W X b fb) (hc : SB N W X c fc)
    (hm : lastMarks [op, op'] [b, c] = false := by with_unfolding_all rfl) : SE N W X (.Compare a [op, op'] [b, c] pos) (eChain G G' fa fb fc) := by
  obtain ⟨ta, pa, sa⟩ := ha
  obtain ⟨tb, pb, sb⟩ := hb
  obtain ⟨tc, pc, sc⟩ := hc
  exact ⟨_, pe_chain ho ho' pa pb pc hm, sim_chain hr hr' sa sb sc⟩
/-! ### tests -/
theorem sim_tv {te : TE} (h : SimE N W te f) : SimT N W (tB te) (tV f) := fun M s σ H Q rl q => h M s σ H _ rl (q.bind.imp fun M1 H1 x s1 e1 r1 q1 v1 h1 => by
  split at q1
  · cases h1
    exact ⟨_, rfl, q1.here r1⟩
  · exact q1.elim)
theorem st_val (h : SE N W X e f) (he : ∀ whole, isTrue e X.env whole = (do let v ← whole; standAt e.pos; holding [v] (truthy v)) := by intro _; rfl) : ST N W X e (tV f) := by
  obtain ⟨te, pe, se⟩ := h
  exact ⟨_, pt_val pe he, sim_tv se⟩
theorem st_cmp {op : CmpOp} (ho : OpR X (compareOp op) r) (hr : OpSim N r G) (ha : SE N W X a fa) (hb : SB N W X b fb) (hm : behindInMarks op b = false) : ST N W X (.Compare a [op] [b] pos) (tV (eOp G fa fb)) := by
  obtain ⟨ta, pa, sa⟩ := ha
  obtain ⟨tb, pb, sb⟩ := hb
  exact ⟨_, pt_cmpR ho pa pb hm, sim_tv (sim_op hr sa sb)⟩
theorem st_cmpL {op : CmpOp} {i : Nat} (ho : OpR X (compareOp op) r) (hr : OpSim N r G) (pa : PE X a (tVar i)) (hb : SB N W X b fb) (hm : behindInMarks op b = false) : ST N W X (.Compare a [op] [b] pos) (tV (eOpL G i fb)) := by
  obtain ⟨tb, pb, sb⟩ := hb
  exact ⟨_, pt_cmpR ho pa pb hm, sim_tv (sim_opL hr sb)⟩
theorem st_chain {op op' : CmpOp} (ho : OpR X (compareOp op) r) (hr : OpSim N r G) (ho' : OpR X (compareOp op') r') (hr' : OpSim N r' G') (ha : SE N W X a fa) (hb : SE N W X b fb) (hc : SB N W X c fc)
    (hm : lastMarks [op, op'] [b, c] = false := by with_unfolding_all rfl) : ST N W X (.Compare a [op, op'] [b, c] pos) (tV (eChain G G' fa fb fc)) := by
  obtain ⟨ta, pa, sa⟩ := ha
  obtain ⟨tb, pb, sb⟩ := hb
  obtain ⟨tc, pc, sc⟩ := hc
  exact ⟨_, pt_chain ho ho' pa pb pc hm, sim_tv (sim_chain hr hr' sa sb sc)⟩
theorem st_not (h : ST N W X e t) : ST N W X (.UnaryOp .Not e pos) (tN t) := by
  obtain ⟨te, pe, se⟩ := h
  exact ⟨_, pt_not pe, fun M s σ H Q rl q => se M s σ H _ rl (q.bind.imp fun M1 H1 x s1 e1 r1 q1 => q1.here r1)⟩
theorem sw_pt (h : SW N W X e t) : ST N W X e t := by
  obtain ⟨te, pe, se⟩ := h
  exact ⟨_, pe.pt, se⟩
theorem sw_and1 (h : ST N W X a t) : SW N W X (.BoolOp .And [a] pos) t := by
  obtain ⟨te, pe, se⟩ := h
  exact ⟨_, pw_and1 pe, se⟩
theorem sw_or1 (h : ST N W X a t) : SW N W X (.BoolOp .Or [a] pos) t := by
  obtain ⟨te, pe, se⟩ := h
  exact ⟨_, pw_or1 pe, se⟩
theorem sw_and (ha : ST N W X a t) (hb : SW N W X (.BoolOp .And (b :: rest) pos) u) : SW N W X (.BoolOp .And (a :: b :: rest) pos) (tA t u) := by
  obtain ⟨ta, pa, sa⟩ := ha
  obtain ⟨tb, pb, sb⟩ := hb
  refine ⟨_, pw_and pa pb, fun M s σ H Q rl q => sa M s σ H _ rl (q.bind.imp fun M1 H1 x s1 e1 r1 q1 => ?_)⟩
  cases x with
  | true => exact iteT (sb M1 s1 σ H1 _ r1 q1)
  | false => exact iteF (q1.here r1)
theorem sw_or (ha : ST N W X a t) (hb : SW N W X (.BoolOp .Or (b :: rest) pos) u) : SW N W X (.BoolOp .Or (a :: b :: rest) pos) (tO t u) := by
  obtain ⟨ta, pa, sa⟩ := ha
  obtain ⟨tb, pb, sb⟩ := hb
  refine ⟨_, pw_or pa pb, fun M s σ H Q rl q => sa M s σ H _ rl (q.bind.imp fun M1 H1 x s1 e1 r1 q1 => ?_)⟩
  cases x with
  | true => exact iteT (q1.here r1)
  | false => exact iteF (sb M1 s1 σ H1 _ r1 q1)
theorem RB.tru {M : MM} {H : Hp} {v : V} {d : D} {k : Bool} (h : RB N.K M H v d) (ht : truD d = some k) : TruV N.K v H k := by
  unfold truD at ht
  split at ht
  · cases ht
    rw [h.non]
    exact rfl
  · cases ht
    rw [h.bl]
    exact rfl
  · cases ht
    rw [h.int]
    exact rfl
  · cases ht
    obtain ⟨a, xs, rfl, h1, h2⟩ := h.tup
    refine .inr (.inl ⟨xs, h1.sq, ?_⟩)
    cases h2 <;> rfl
  · cases ht
    obtain ⟨a, xs, rfl, h1, h2⟩ := h.list
    refine .inl ⟨xs, .of h1, ?_⟩
    cases h2 <;> rfl
  · cases ht
theorem st_tru (hK : X.K = N.K) (h : SB N W X e f) (he : ∀ whole, isTrue e X.env whole = (do let v ← whole; standAt e.pos; holding [v] (truthy v)) := by intro _; rfl) : ST N W X e (tU f) := by
  obtain ⟨te, pe, se⟩ := h
  refine ⟨_, pt_truth pe he, fun M s σ H Q rl q => se M s σ H _ rl (q.bind.imp fun M1 H1 x s1 e1 r1 q1 v1 h1 => ?_)⟩
  split at q1
  · rename_i b hb
    rw [hK]
    exact ⟨b, h1.tru hb, q1.here r1⟩
  · exact q1.elim
/-! ### argument lists, displays -/
theorem sa_nil : SA N W X [] aNil := ⟨_, pa_nil, fun M s σ H Q rl q => q.here rl _ .nil, fun s ds s' h => by cases h; rfl⟩
theorem sa_cons (ha : SE N W X e f) (hr : SA N W X es fs) (hs : starEach (e :: es) X.env = (false, eval e X.env) :: starEach es X.env := by rfl) : SA N W X (e :: es) (aCons f fs) := by
  obtain ⟨ta, pa, sa⟩ := ha
  obtain ⟨tr, pr, sr, hl⟩ := hr
  refine ⟨_, pa_cons pa pr hs, fun M s σ H Q rl q => sa M s σ H _ rl (q.bind.imp fun M1 H1 x s1 e1 r1 q1 v1 h1 => sr M1 s1 σ H1 _ r1 (q1.bind.imp fun M2 H2 xs s2 e2 r2 q2 vs h2 => q2.here r2 _ (.cons (e2.r h1) h2))), fun s ds s' h => ?_⟩
  unfold aCons Res.bind at h
  split at h
  · dsimp only at h
    split at h
    · cases h
      rename_i x s1 _ xs s2 h2
      rw [List.length_cons, List.length_cons, hl _ _ _ h2]
    · cases h
    · cases h
  · cases h
  · cases h
theorem sa_run {t : TA} {σ : St} {M : MM} {H : Hp} {s : S} {Q : List V → Hp → Prop} {α : Type} {k : List D → S → Res α} {Φ : MM → Hp → α → S → Prop} (st : SimA N W t fs) (hn : ∀ s ds s', fs s = .ok ds s' → ds.length = es.length) (rl : Rel N M s σ H)
    (q : GoodE N W σ M H ((fs s).bind k) Φ) (f : ∀ M1 H1 ds s1 vs, Ext M H M1 H1 → Rel N M1 s1 σ H1 → GoodE N W σ M1 H1 (k ds s1) Φ → RA N.K M1 H1 vs ds → ds.length = es.length → Q vs H1) : t σ H Q := by
  have q1 := q.bind
  refine st M s σ H _ rl ?_
  cases hf : fs s with
  | stuck => rw [hf] at q1; exact q1.elim
  | exc c d s1 => rw [hf] at q1; exact q1
  | ok ds s1 =>
    rw [hf] at q1
    exact fun M1 H1 e1 r1 vs h1 => f M1 H1 ds s1 vs e1 r1 (q1 M1 H1 e1 r1) h1 (hn s ds s1 hf)
theorem se_tup {k : Nat} (h : SA N W X es fs) (hl : es.length ≤ 100000 := by decide) : SE N W X (.Tuple es k pos) (eTup fs) := by
  obtain ⟨t, pt, st, hn⟩ := h
  refine ⟨_, pe_tup pt, fun M s σ H Q rl q => sa_run (es := es) st hn rl q fun M1 H1 ds s1 vs e1 r1 q1 h1 h2 => ?_⟩
  exact ⟨len_line (by rw [h1.length, h2]; exact hl), fun p np => q1.grown r1 (Same.upd np) _ (r1.toRelC.newTup np h1)⟩
theorem sf_lst (h : SA N W X es fs) (hl : es.length ≤ 100000 := by decide) : SF N W X (.List es pos) fs := by
  obtain ⟨t, pt, st, hn⟩ := h
  refine ⟨_, pe_lst pt, fun M s σ H Q rl q => ?_⟩
  refine st M s σ H _ rl ?_
  cases hf : fs s with
  | stuck => rw [hf] at q; exact q.elim
  | exc c d s1 => rw [hf] at q; exact q
  | ok ds s1 =>
    rw [hf] at q
    refine fun M1 H1 e1 r1 vs h1 => ⟨len_line (by rw [h1.length, hn s ds s1 hf]; exact hl), fun p np => ?_⟩
    obtain ⟨_, e⟩ := r1.toRelC.laid (xs := vs) np
    exact q _ _ (e1.trans e) (r1.laid np) p vs (e1.fresh rl.toRelC np) own1_same upd_same (e.ra h1)
/-- a new list as a datum -/
theorem se_f {fs : As} (h : SF N W X e fs) : SE N W X e (eF fs) := by
  obtain ⟨t, pt, st⟩ := h
  refine ⟨_, pt, fun M s σ H Q rl q => st M s σ H _ rl ?_⟩
  unfold eF at q
  cases hf : fs s with
  | stuck => rw [hf] at q; exact q.elim
  | exc c d s1 => rw [hf] at q; exact q
  | ok ds s1 =>
    rw [hf] at q
    refine fun M1 H1 e1 r1 p xs f m hp h1 => ?_
    exact q _ _ (e1.ownW f) (r1.ownW m (by intro n z; cases z)) _ (.lst own1_same hp ((ext0_own m).ra h1))
end
end Z
/-! ## built-ins, slices -/
namespace Z
open PySem PySem.Spec L2 GxR
open PyProof.Rows hiding St
def CallSim (N : En) (r : List V → Hp → VK → Prop) (g : D → Option D) : Prop :=
  ∀ (M : MM) (H : Hp) (cs : List Cell) (x : V) (d z : D) (Q : VK), RelC N M cs H → RB N.K M H x d → g d = some z → (∀ H' v, Same H H' → R N.K M H' v z → Q v H') → r [x] H Q
/-- a new list comes -/
def CallSimF (N : En) (r : List V → Hp → VK → Prop) (g : D → Option (List D)) : Prop :=
  ∀ (M : MM) (H : Hp) (cs : List Cell) (x : V) (d : D) (z : List D) (Q : VK), RelC N M cs H → RB N.K M H x d → g d = some z → (∀ p xs, H p = none → RA N.K M H xs z → Q (.ref p) (upd H p (.lst xs))) → r [x] H Q
def eC1 (g : D → Option D) (f : Ex) : Ex := fun s => (f s).bind fun x s1 => lift (g x) s1
def liftL (r : Option (List D)) (s : S) : Res (List D) := match r with
  | some z => .ok z s
  | none => .stuck
def aC1 (g : D → Option (List D)) (f : Ex) : As := fun s => (f s).bind fun x s1 => liftL (g x) s1
def lenD : D → Option D
  | .tup l => some (.int l.length)
  | .lst l => some (.int l.length)
  | _ => none
def absD : D → Option D
  | .int i => some (.int (if i < 0 then -i else i))
  | _ => none
def intD : D → Option D
  | .int i => some (.int i)
  | .bl k => some (.int (if k then 1 else 0))
  | _ => none
def tupD : D → Option D
  | .lst l => some (.tup l)
  | .tup l => some (.tup l)
  | _ => none
def boolsD : List D → Option (List Bool)
  | [] => some []
  | .bl b :: l => (boolsD l).map (b :: ·)
  | _ => none
def intsD : List D → Option (List Int)
  | [] => some []
  | .int b :: l => (intsD l).map (b :: ·)
  | _ => none
def allD : D → Option D
  | .lst l => (boolsD l).map fun bs => .bl (bs.all id)
  | _ => none
def anyD : D → Option D
  | .lst l => (boolsD l).map fun bs => .bl (bs.any id)
  | _ => none
def sumD : D → Option D
  | .lst l => (intsD l).map fun bs => .int bs.sum
  | _ => none
def minTD : D → Option D
  | .tup (.int n :: l) => (intsD l).map fun ns => .int (ns.foldl min n)
  | _ => none
def maxTD : D → Option D
  | .tup (.int n :: l) => (intsD l).map fun ns => .int (ns.foldl max n)
  | _ => none
def listD : D → Option (List D)
  | .lst l => some l
  | .tup l => some l
  | .scr l => some (l.map D.int)
  | _ => none
theorem bools_map : ∀ bs : List Bool, boolsD (bs.map D.bl) = some bs
  | [] => rfl
  | b :: bs => by rw [List.map_cons, boolsD, bools_map bs]; rfl
theorem ints_map : ∀ bs : List Int, intsD (bs.map D.int) = some bs
  | [] => rfl
  | b :: bs => by rw [List.map_cons, intsD, ints_map bs]; rfl
section
variable {N : En} {W : WX} {X : Cx} {K : PySem.W.Frag} {M : MM} {H : Hp}
theorem RA.boolsOf : ∀ {xs : List V} {l : List D} {bs : List Bool}, RA K M H xs l → Z.boolsD l = some bs → xs = bs.map V.bl
  | _, _, bs, .nil, e => by
    rw [Z.boolsD] at e
    cases e
    rfl
  | _, _, bs, .cons (d := d) h t, e => by
    cases h with
    | bl b =>
      rw [Z.boolsD] at e
      obtain ⟨bs', e1, rfl⟩ := Option.map_eq_some_iff.mp e
      rw [RA.boolsOf t e1]
      rfl
    | _ => simp [Z.boolsD] at e
theorem RA.intsOf : ∀ {xs : List V} {l : List D} {bs : List Int}, RA K M H xs l → Z.intsD l = some bs → xs = bs.map V.int
  | _, _, bs, .nil, e => by
    rw [Z.intsD] at e
    cases e
    rfl
  | _, _, bs, .cons (d := d) h t, e => by
    cases h with
    | int b =>
      rw [Z.intsD] at e
      obtain ⟨bs', e1, rfl⟩ := Option.map_eq_some_iff.mp e
      rw [RA.intsOf t e1]
      rfl
    | _ => simp [Z.intsD] at e
theorem sim_len : CallSim N (fun xs H Q => ∃ p ys, xs = [.ref p] ∧ (SqL N.K H p ys ∨ SqT N.K H p ys) ∧ Q (.int ys.length) H) lenD := by
  intro M H cs x d z Q rc hx hg q
  unfold lenD at hg
  split at hg
  · cases hg
    obtain ⟨a, xs, rfl, h1, h2⟩ := hx.tup
    exact ⟨a, xs, rfl, .inr h1.sq, by rw [h2.length]; exact q _ _ (Same.refl _) (.int _)⟩
  · cases hg
    obtain ⟨a, xs, rfl, h1, h2⟩ := hx.list
    exact ⟨a, xs, rfl, .inl (.of h1), by rw [h2.length]; exact q _ _ (Same.refl _) (.int _)⟩
  · cases hg
theorem sim_abs : CallSim N (fun xs H Q => ∃ i, xs = [.int i] ∧ Q (.int (if i < 0 then -i else i)) H) absD := by
  intro M H cs x d z Q rc hx hg q
  unfold absD at hg
  split at hg
  · cases hg
    rw [hx.int]
    exact ⟨_, rfl, q _ _ (Same.refl _) (.int _)⟩
  · cases hg
theorem sim_int : CallSim N (fun xs H Q => (∃ i, xs = [.int i] ∧ Q (.int i) H) ∨ ∃ k, xs = [.bl k] ∧ Q (.int (if k then 1 else 0)) H) intD := by
  intro M H cs x d z Q rc hx hg q
  unfold intD at hg
  split at hg
  · cases hg
    rw [hx.int]
    exact .inl ⟨_, rfl, q _ _ (Same.refl _) (.int _)⟩
  · cases hg
    rw [hx.bl]
    exact .inr ⟨_, rfl, q _ _ (Same.refl _) (.int _)⟩
  · cases hg
theorem sim_tuple : CallSim N (fun xs H Q => ∃ p ys, xs = [.ref p] ∧ ((SqL N.K H p ys ∧ ∀ l, H l = none → Q (.ref l) (upd H l (.tup ys))) ∨ (SqT N.K H p ys ∧ Q (.ref p) H))) tupD := by
  intro M H cs x d z Q rc hx hg q
  unfold tupD at hg
  split at hg
  · cases hg
    obtain ⟨a, xs, rfl, h1, h2⟩ := hx.list
    exact ⟨a, xs, rfl, .inl ⟨.of h1, fun p np => q _ _ (Same.upd np) (rc.newTup np h2)⟩⟩
  · cases hg
    obtain ⟨a, xs, rfl, h1, h2⟩ := hx.tup
    exact ⟨a, xs, rfl, .inr ⟨h1.sq, q _ _ (Same.refl _) (.tup h1 h2)⟩⟩
  · cases hg
theorem sim_all : CallSim N (rAll N.K) allD := by
  intro M H cs x d z Q rc hx hg q
  unfold allD at hg
  split at hg
  · obtain ⟨bs, e1, rfl⟩ := Option.map_eq_some_iff.mp hg
    obtain ⟨a, xs, rfl, h1, h2⟩ := hx.list
    exact ⟨a, bs, rfl, by rw [← h2.boolsOf e1]; exact .of h1, q _ _ (Same.refl _) (.bl _)⟩
  · cases hg
theorem sim_any : CallSim N (rAny N.K) anyD := by
  intro M H cs x d z Q rc hx hg q
  unfold anyD at hg
  split at hg
  · obtain ⟨bs, e1, rfl⟩ := Option.map_eq_some_iff.mp hg
    obtain ⟨a, xs, rfl, h1, h2⟩ := hx.list
    exact ⟨a, bs, rfl, by rw [← h2.boolsOf e1]; exact .of h1, q _ _ (Same.refl _) (.bl _)⟩
  · cases hg
theorem sim_sum : CallSim N (rSum N.K) sumD := by
  intro M H cs x d z Q rc hx hg q
  unfold sumD at hg
  split at hg
  · obtain ⟨bs, e1, rfl⟩ := Option.map_eq_some_iff.mp hg
    obtain ⟨a, xs, rfl, h1, h2⟩ := hx.list
    exact ⟨a, bs, rfl, by rw [← h2.intsOf e1]; exact .of h1, q _ _ (Same.refl _) (.int _)⟩
  · cases hg
theorem sim_minT : CallSim N (GXX.rMinT N.K) minTD := by
  intro M H cs x d z Q rc hx hg q
  unfold minTD at hg
  split at hg
  · obtain ⟨bs, e1, rfl⟩ := Option.map_eq_some_iff.mp hg
    obtain ⟨a, xs, rfl, h1, h2⟩ := hx.tup
    cases h2 with
    | cons h3 h4 =>
      cases h3
      exact ⟨a, _, bs, rfl, by rw [List.map_cons, ← h4.intsOf e1]; exact h1.sq, q _ _ (Same.refl _) (.int _)⟩
  · cases hg
theorem sim_maxT : CallSim N (GXX.rMaxT N.K) maxTD := by
  intro M H cs x d z Q rc hx hg q
  unfold maxTD at hg
  split at hg
  · obtain ⟨bs, e1, rfl⟩ := Option.map_eq_some_iff.mp hg
    obtain ⟨a, xs, rfl, h1, h2⟩ := hx.tup
    cases h2 with
    | cons h3 h4 =>
      cases h3
      exact ⟨a, _, bs, rfl, by rw [List.map_cons, ← h4.intsOf e1]; exact h1.sq, q _ _ (Same.refl _) (.int _)⟩
  · cases hg
theorem sim_list : CallSimF N (fun xs H Q => ∃ p ys, xs = [.ref p] ∧ (SqL N.K H p ys ∨ SqT N.K H p ys) ∧ ∀ l, H l = none → Q (.ref l) (upd H l (.lst ys))) listD := by
  intro M H cs x d z Q rc hx hg q
  unfold listD at hg
  split at hg
  · cases hg
    obtain ⟨a, xs, rfl, h1, h2⟩ := hx.list
    exact ⟨a, xs, rfl, .inl (.of h1), fun p np => q p xs np h2⟩
  · cases hg
    obtain ⟨a, xs, rfl, h1, h2⟩ := hx.tup
    exact ⟨a, xs, rfl, .inr h1.sq, fun p np => q p xs np h2⟩
  · cases hg
    cases hx.of (by intro l z; cases z) with
    | scr h1 => exact ⟨_, _, rfl, .inl h1.sq, fun p np => q p _ np (RA.ints _)⟩
  · cases hg
variable {a e : Expr} {f fa : Ex} {r : List V → Hp → VK → Prop} {g : D → Option D} {gl : D → Option (List D)} {p pos : Pos}
theorem sim_c1 {ta : TE} (hs : CallSim N r g) (h : SimB N W ta f) : SimE N W (tCB r (tCons ta tNil)) (eC1 g f) := fun M s σ H Q rl q => by
  refine h M s σ H _ rl (q.bind.imp fun M1 H1 x s1 e1 r1 q1 v1 h1 => ?_)
  cases hz : g x with
  | none => rw [hz] at q1; exact q1.elim
  | some z =>
    rw [hz] at q1
    exact hs M1 H1 s1.cs v1 x z Q r1.toRelC h1 hz fun H3 v3 k h3 => q1.grown r1 k v3 h3
theorem sim_c1f {ta : TE} (hs : CallSimF N r gl) (h : SimB N W ta f) : SimF N W (tCB r (tCons ta tNil)) (aC1 gl f) := fun M s σ H Q rl q => by
  refine h M s σ H _ rl ?_
  unfold aC1 at q
  cases hf : f s with
  | stuck => rw [hf] at q; exact q.elim
  | exc c d s1 => rw [hf] at q; exact q
  | ok x s1 =>
    rw [hf] at q
    refine fun M1 H1 e1 r1 v1 h1 => ?_
    cases hz : gl x with
    | none =>
      have q : GoodE N W σ M H (liftL (gl x) s1) _ := q
      rw [hz] at q
      exact q.elim
    | some z =>
      have q : GoodE N W σ M H (liftL (gl x) s1) _ := q
      rw [hz] at q
      refine hs M1 H1 s1.cs v1 x z Q r1.toRelC h1 hz fun p xs np h3 => ?_
      obtain ⟨_, e⟩ := r1.toRelC.laid (xs := xs) np
      exact q _ _ (e1.trans e) (r1.laid np) p xs (e1.fresh rl.toRelC np) own1_same upd_same (e.ra h3)
theorem se_c1 {x : Str} {id : String} (hc : CallR X (.builtin id) r) (hs : CallSim N r g) (hv : bootBuiltins x = some (.builtin id)) (hn : x ≠ "__name__") (hdb : (x == ("__debug__" : Str)) = false) (hg : Gl X x) (hm : X.mg x = none) (ha : SB N W X a f)
    (he : starEach [a] X.env = (false, eval a X.env) :: starEach [] X.env) : SE N W X (.Call (.Name x p) [a] [] pos) (eC1 g f) := by
  obtain ⟨ta, pa, sa⟩ := ha
  exact ⟨_, pe_callB hc hg hm hv (pa_cons pa pa_nil he) hn hdb he rfl, sim_c1 hs sa⟩
theorem se_c1T {x : Str} {T : String} (hc : CallR X (.type T) r) (hs : CallSim N r g) (hv : bootBuiltins x = some (.type T)) (hn : x ≠ "__name__") (hdb : (x == ("__debug__" : Str)) = false) (hg : Gl X x) (hm : X.mg x = none) (ha : SB N W X a f)
    (he : starEach [a] X.env = (false, eval a X.env) :: starEach [] X.env) : SE N W X (.Call (.Name x p) [a] [] pos) (eC1 g f) := by
  obtain ⟨ta, pa, sa⟩ := ha
  exact ⟨_, pe_callTy hc hg hm hv (pa_cons pa pa_nil he) hn hdb he rfl, sim_c1 hs sa⟩
theorem se_len (hK : X.K = N.K) (hg : Gl X "len") (hm : X.mg "len" = none) (ha : SB N W X a f) (he : starEach [a] X.env = (false, eval a X.env) :: starEach [] X.env := by rfl) : SE N W X (.Call (.Name "len" p) [a] [] pos) (eC1 lenD f) :=
  se_c1 (hK ▸ call_len_seq) sim_len (by decide +kernel) (by decide) (by decide) hg hm ha he
theorem se_abs (hg : Gl X "abs") (hm : X.mg "abs" = none) (ha : SB N W X a f) (he : starEach [a] X.env = (false, eval a X.env) :: starEach [] X.env := by rfl) : SE N W X (.Call (.Name "abs" p) [a] [] pos) (eC1 absD f) :=
  se_c1 call_abs sim_abs (by decide +kernel) (by decide) (by decide) hg hm ha he
theorem se_int1 (hg : Gl X "int") (hm : X.mg "int" = none) (ha : SB N W X a f) (he : starEach [a] X.env = (false, eval a X.env) :: starEach [] X.env := by rfl) : SE N W X (.Call (.Name "int" p) [a] [] pos) (eC1 intD f) :=
  se_c1T call_int1 sim_int (by decide +kernel) (by decide) (by decide) hg hm ha he
theorem se_tuple (hK : X.K = N.K) (hg : Gl X "tuple") (hm : X.mg "tuple" = none) (ha : SB N W X a f) (he : starEach [a] X.env = (false, eval a X.env) :: starEach [] X.env := by rfl) : SE N W X (.Call (.Name "tuple" p) [a] [] pos) (eC1 tupD f) :=
  se_c1T (hK ▸ call_tuple_of) sim_tuple (by decide +kernel) (by decide) (by decide) hg hm ha he
theorem se_all (hK : X.K = N.K) (hc : X.calm = true) (hg : Gl X "all") (hm : X.mg "all" = none) (ha : SB N W X a f) (he : starEach [a] X.env = (false, eval a X.env) :: starEach [] X.env := by rfl) : SE N W X (.Call (.Name "all" p) [a] [] pos) (eC1 allD f) :=
  se_c1 (hK ▸ cr_all hc) sim_all (by decide +kernel) (by decide) (by decide) hg hm ha he
theorem se_any (hK : X.K = N.K) (hc : X.calm = true) (hg : Gl X "any") (hm : X.mg "any" = none) (ha : SB N W X a f) (he : starEach [a] X.env = (false, eval a X.env) :: starEach [] X.env := by rfl) : SE N W X (.Call (.Name "any" p) [a] [] pos) (eC1 anyD f) :=
  se_c1 (hK ▸ cr_any hc) sim_any (by decide +kernel) (by decide) (by decide) hg hm ha he
theorem se_sum (hK : X.K = N.K) (hc : X.calm = true) (hg : Gl X "sum") (hm : X.mg "sum" = none) (ha : SB N W X a f) (he : starEach [a] X.env = (false, eval a X.env) :: starEach [] X.env := by rfl) : SE N W X (.Call (.Name "sum" p) [a] [] pos) (eC1 sumD f) :=
  se_c1 (hK ▸ cr_sum hc) sim_sum (by decide +kernel) (by decide) (by decide) hg hm ha he
theorem se_minT (hK : X.K = N.K) (hc : X.calm = true) (hu : X.A.units + 2 < cLine) (hg : Gl X "min") (hm : X.mg "min" = none) (ha : SB N W X a f) (he : starEach [a] X.env = (false, eval a X.env) :: starEach [] X.env := by rfl) : SE N W X (.Call (.Name "min" p) [a] [] pos) (eC1 minTD f) :=
  se_c1 (hK ▸ GXX.cr_minT hc hu) sim_minT (by decide +kernel) (by decide) (by decide) hg hm ha he
theorem se_maxT (hK : X.K = N.K) (hc : X.calm = true) (hu : X.A.units + 2 < cLine) (hg : Gl X "max") (hm : X.mg "max" = none) (ha : SB N W X a f) (he : starEach [a] X.env = (false, eval a X.env) :: starEach [] X.env := by rfl) : SE N W X (.Call (.Name "max" p) [a] [] pos) (eC1 maxTD f) :=
  se_c1 (hK ▸ GXX.cr_maxT hc hu) sim_maxT (by decide +kernel) (by decide) (by decide) hg hm ha he
theorem sf_list (hK : X.K = N.K) (hg : Gl X "list") (hm : X.mg "list" = none) (ha : SB N W X a f) (he : starEach [a] X.env = (false, eval a X.env) :: starEach [] X.env := by rfl) : SF N W X (.Call (.Name "list" p) [a] [] pos) (aC1 listD f) := by
  obtain ⟨ta, pa, sa⟩ := ha
  exact ⟨_, pe_callTy (hK ▸ call_list_of) hg hm (by decide +kernel) (pa_cons pa pa_nil he) (by decide) (by decide) he rfl, sim_c1f sim_list sa⟩
end
end Z
/-! ## isinstance, slices, names of the module, cells, calls -/
namespace Z
open PySem PySem.Spec L2 GxR
open PyProof.Rows hiding St
inductive Ty5 where
  | int | bool | str | tuple | list
def Ty5.s : Ty5 → String
  | .int => "int" | .bool => "bool" | .str => "str" | .tuple => "tuple" | .list => "list"
def tyD : D → String
  | .non => "NoneType" | .bl _ => "bool" | .int _ => "int" | .str _ => "str" | .lst _ => "list" | .tup _ => "tuple" | .cell _ => "list" | .scr _ => "list" | .rng _ _ => "range" | .fn _ => "function" | .dic _ => "dict" | .ft _ => "tuple"
def isTy : Ty5 → D → Option Bool
  | _, .cell _ => none
  | _, .scr _ => none
  | _, .rng _ _ => none
  | _, .fn _ => none
  | _, .dic _ => none
  | _, .ft _ => none
  | .int, .int _ => some true
  | .int, .bl _ => some true
  | .bool, .bl _ => some true
  | .str, .str _ => some true
  | .tuple, .tup _ => some true
  | .list, .lst _ => some true
  | _, _ => some false
def eIsi (T : Ty5) (f : Ex) : Ex := fun s => (f s).bind fun x s1 => lift ((isTy T x).map D.bl) s1
/-- l[lo:hi] -/
def cutD (l : List D) (lo hi : Option Int) : List D := (l.drop (HT.sIx l.length 0 lo)).take (HT.sIx l.length l.length hi - HT.sIx l.length 0 lo)
def slD (d : D) (lo hi : Option Int) : Option D := match d with
  | .tup l => some (.tup (cutD l lo hi))
  | .lst l => some (.lst (cutD l lo hi))
  | _ => none
abbrev Os := S → Res (Option Int)
def oNo : Os := fun s => .ok none s
def oEx (f : Ex) : Os := fun s => (f s).bind fun x s1 => match x with
  | .int i => .ok (some i) s1
  | _ => .stuck
def eSl (f : Ex) (lo hi : Os) : Ex := fun s => (f s).bind fun x s1 => (lo s1).bind fun l s2 => (hi s2).bind fun h s3 => lift (slD x l h) s3
def eSlL (i : Nat) (lo hi : Os) : Ex := fun s => match slotD i s with
  | some _ => (lo s).bind fun l s2 => (hi s2).bind fun h s3 => (match slotD i s3 with
    | some x => lift (slD x l h) s3
    | none => .stuck)
  | none => .stuck
def revD : D → Option D
  | .tup l => some (.tup l.reverse)
  | _ => none
def revLD : D → Option (List D)
  | .lst l => some l.reverse
  | _ => none
def SimO (N : En) (W : WX) (t : TO) (f : Os) : Prop := ∀ M s σ H Q, Rel N M s σ H → GoodE N W σ M H (f s) (fun _ H' o _ => Q o H') → t σ H Q
def SO (N : En) (W : WX) (X : Cx) (e : Option Expr) (f : Os) : Prop := ∃ t, PO X e t ∧ SimO N W t f
section
variable {N : En} {W : WX} {X : Cx} {K : PySem.W.Frag} {M : MM} {H : Hp} {a e t : Expr} {lo hi : Option Expr} {f fa : Ex} {flo fhi : Os} {p p2 pos : Pos}
theorem tyxL {a : Addr} {xs : List V} (h : SqL K H a xs) : TyX K H (.ref a) (.type "list") := by
  rcases h with (h | ⟨o, h⟩) | ⟨o, its, n, h, c, _⟩
  · exact .base (.lst h)
  · exact .base (.frz h)
  · exact .kList h c
theorem tyxT {a : Addr} {xs : List V} (h : SqT K H a xs) : TyX K H (.ref a) (.type "tuple") := by
  rcases h with (h | ⟨o, h⟩) | ⟨o, its, n, h, c, _⟩
  · exact .base (.tup h)
  · exact .fTuple h
  · exact .kTuple h c
theorem RB.tyx {v : V} {d : D} (h : RB K M H v d) {T : Ty5} {b : Bool} (hb : isTy T d = some b) : TyX K H v (.type (tyD d)) := by
  rcases h with h | ⟨a, xs, l, i, rfl, rfl, _, h1, _⟩
  · cases h with
    | non => exact .base .non
    | bl b => exact .base (.bl b)
    | int i => exact .base (.int i)
    | str h => exact .base (.str _)
    | lst _ h1 _ => exact tyxL (.of h1)
    | tup h1 _ => exact tyxT h1.sq
    | cell _ => cases T <;> simp [isTy] at hb
    | scr _ => cases T <;> simp [isTy] at hb
    | rng _ _ => cases T <;> simp [isTy] at hb
    | fn _ => cases T <;> simp [isTy] at hb
    | dic _ _ _ => cases T <;> simp [isTy] at hb
    | ft _ _ => cases T <;> simp [isTy] at hb
  · exact tyxL (.of h1)
theorem kit_all : ∀ T : Ty5, ["NoneType", "bool", "int", "str", "list", "tuple"].all (fun x => kitB x T.s == some (match T, x with
  | .int, "int" => true | .int, "bool" => true | .bool, "bool" => true | .str, "str" => true | .tuple, "tuple" => true | .list, "list" => true | _, _ => false)) = true
  | .int => by decide +kernel
  | .bool => by decide +kernel
  | .str => by decide +kernel
  | .tuple => by decide +kernel
  | .list => by decide +kernel
theorem kit_one {T : Ty5} {d : D} {b : Bool} (hb : isTy T d = some b) : PySem.W.kitOne K (.type (tyD d)) (.type T.s) = some b := by
  have h := List.all_eq_true.mp (kit_all T)
  refine kit_ty ?_
  cases T <;> cases d <;> simp only [isTy, Option.some.injEq, reduceCtorEq] at hb <;> subst hb <;>
    first
      | exact eq_of_beq (h "NoneType" (by simp))
      | exact eq_of_beq (h "bool" (by simp))
      | exact eq_of_beq (h "int" (by simp))
      | exact eq_of_beq (h "str" (by simp))
      | exact eq_of_beq (h "list" (by simp))
      | exact eq_of_beq (h "tuple" (by simp))
/-- isinstance(x, T) -/
theorem se_isi (T : Ty5) (hK : X.K = N.K) (hg : Gl X "isinstance") (hm : X.mg "isinstance" = none) (ht : PE X t (tC (.ty T.s))) (ha : SE N W X a f) (he : starEach [a, t] X.env = (false, eval a X.env) :: starEach [t] X.env := by rfl) (he2 : starEach [t] X.env = (false, eval t X.env) :: starEach [] X.env := by rfl) :
    SE N W X (.Call (.Name "isinstance" p) [a, t] [] pos) (eIsi T f) := by
  obtain ⟨ta, pa, sa⟩ := ha
  refine ⟨_, pe_callB (hK ▸ call_isi) hg hm (by decide +kernel) (pa_cons pa (pa_cons ht pa_nil he2) he) (by decide) (by decide) he (by rw [he2]; rfl), fun M s σ H Q rl q => sa M s σ H _ rl (q.bind.imp fun M1 H1 x s1 e1 r1 q1 v1 h1 => ?_)⟩
  cases hb : isTy T x with
  | none => rw [hb] at q1; exact q1.elim
  | some b =>
    rw [hb] at q1
    exact ⟨v1, .ty T.s, _, _, b, rfl, .ty _, h1.rb.tyx hb, kit_one hb, q1.here r1 _ (.bl b)⟩
theorem so_no : SO N W X none oNo := ⟨_, po_none, fun M s σ H Q rl q => q.here rl⟩
theorem so_ex (h : SE N W X a f) : SO N W X (some a) (oEx f) := by
  obtain ⟨t, pe, se⟩ := h
  refine ⟨_, po_some pe, fun M s σ H Q rl q => se M s σ H _ rl (q.bind.imp fun M1 H1 x s1 e1 r1 q1 v1 h1 => ?_)⟩
  split at q1
  · cases h1
    exact ⟨_, rfl, q1.here r1⟩
  · exact q1.elim
theorem RA.cut {xs : List V} {l : List D} {lo hi : Option Int} (h : RA K M H xs l) : RA K M H (cutV xs lo hi) (cutD l lo hi) := by
  unfold cutV cutD
  rw [h.length]
  exact (h.drop _).take _
theorem cut_whole {α : Type} {l : List α} {lo hi : Option Int} (h : HT.sIx l.length 0 lo = 0 ∧ HT.sIx l.length l.length hi = l.length) : (l.drop (HT.sIx l.length 0 lo)).take (HT.sIx l.length l.length hi - HT.sIx l.length 0 lo) = l := by
  rw [h.1, h.2]
  simp
theorem sim_sl {cs : List Cell} {x : V} {d z : D} {l h : Option Int} {Q : VK} (rc : RelC N M cs H) (hx : RB N.K M H x d) (hg : slD d l h = some z) (q : ∀ H' v, Same H H' → R N.K M H' v z → Q v H') : rSlA N.K x l h H Q ∨ rSlL N.K x l h H Q := by
  unfold slD at hg
  split at hg
  · cases hg
    obtain ⟨a, xs, rfl, h1, h2⟩ := hx.tup
    refine .inl ⟨a, xs, rfl, h1.sq, fun e => ?_, fun _ p np => q _ _ (Same.upd np) (rc.newTup np h2.cut)⟩
    refine q _ _ (Same.refl _) (.tup h1 ?_)
    have e1 := h2.cut (lo := l) (hi := h)
    unfold cutV at e1
    rw [cut_whole e] at e1
    exact e1
  · cases hg
    obtain ⟨a, xs, rfl, h1, h2⟩ := hx.list
    exact .inr ⟨a, xs, rfl, .of h1, fun p np => q _ _ (Same.upd np) (rc.newLst np h2.cut)⟩
  · cases hg
theorem se_sl (hK : X.K = N.K) (ha : SE N W X a f) (hl : SO N W X lo flo) (hh : SO N W X hi fhi) : SE N W X (.Subscript a (.Slice lo hi none p2) pos) (eSl f flo fhi) := by
  obtain ⟨ta, pa, sa⟩ := ha
  obtain ⟨tl, pl, sl⟩ := hl
  obtain ⟨th, ph, sh⟩ := hh
  refine ⟨_, pe_slice (SlR.or (hK ▸ sl_tupA) (hK ▸ sl_list)) pa pl ph, fun M s σ H Q rl q => ?_⟩
  refine sa M s σ H _ rl (q.bind.imp fun M1 H1 x s1 e1 r1 q1 v1 h1 => ?_)
  refine sl M1 s1 σ H1 _ r1 (q1.bind.imp fun M2 H2 l s2 e2 r2 q2 => ?_)
  refine sh M2 s2 σ H2 _ r2 (q2.bind.imp fun M3 H3 h s3 e3 r3 q3 => ?_)
  cases hz : slD x l h with
  | none => rw [hz] at q3; exact q3.elim
  | some z =>
    rw [hz] at q3
    exact sim_sl r3.toRelC (e3.r (e2.r h1)).rb hz fun H5 v5 k5 h5 => q3.grown r3 k5 v5 h5
theorem se_slL {i : Nat} (hK : X.K = N.K) (pa : PE X a (tVar i)) (hl : SO N W X lo flo) (hh : SO N W X hi fhi) : SE N W X (.Subscript a (.Slice lo hi none p2) pos) (eSlL i flo fhi) := by
  obtain ⟨tl, pl, sl⟩ := hl
  obtain ⟨th, ph, sh⟩ := hh
  refine ⟨_, pe_slice (SlR.or (hK ▸ sl_tupA) (hK ▸ sl_list)) pa pl ph, fun M s σ H Q rl q => ?_⟩
  unfold eSlL at q
  split at q
  · rename_i d0 h0
    obtain ⟨v, k1, _⟩ := slot_rb rl h0
    refine ⟨v, k1, ?_⟩
    refine sl M s σ H _ rl (q.bind.imp fun M2 H2 l s2 e2 r2 q2 => ?_)
    refine sh M2 s2 σ H2 _ r2 (q2.bind.imp fun M3 H3 h s3 e3 r3 q3 => ?_)
    split at q3
    · rename_i x hx
      obtain ⟨v', k1', k2⟩ := slot_rb r3 hx
      rw [k1] at k1'
      cases k1'
      cases hz : slD x l h with
      | none => rw [hz] at q3; exact q3.elim
      | some z =>
        rw [hz] at q3
        exact sim_sl r3.toRelC k2 hz fun H5 v5 k5 h5 => q3.grown r3 k5 v5 h5
    · exact q3.elim
  · exact q.elim
/-- t[::-1] -/
theorem se_rev {k : Nat} {p1 p3 p4 : Pos} (hK : X.K = N.K) (ha : SB N W X a f) : SE N W X (.Subscript a (.Slice none none (some (.UnaryOp .USub (.Constant (.int 1) k p1) p3)) p4) pos) (eC1 revD f) := by
  obtain ⟨ta, pa, sa⟩ := ha
  refine ⟨_, GXX.pe_revT pa, fun M s σ H Q rl q => sa M s σ H _ rl (q.bind.imp fun M1 H1 x s1 e1 r1 q1 v1 h1 => ?_)⟩
  cases hz : revD x with
  | none => rw [hz] at q1; exact q1.elim
  | some z =>
    rw [hz] at q1
    unfold revD at hz
    split at hz
    · cases hz
      obtain ⟨a, xs, rfl, h2, h3⟩ := h1.tup
      exact ⟨a, xs, rfl, hK ▸ h2.sq, fun p np => q1.grown r1 (Same.upd np) _ (r1.toRelC.newTup np h3.reverse)⟩
    · cases hz
/-- l[::-1], l a list: a new one -/
theorem sf_revL {k : Nat} {p1 p3 p4 : Pos} (hK : X.K = N.K) (ha : SB N W X a f) : SF N W X (.Subscript a (.Slice none none (some (.UnaryOp .USub (.Constant (.int 1) k p1) p3)) p4) pos) (aC1 revLD f) := by
  obtain ⟨ta, pa, sa⟩ := ha
  refine ⟨_, pe_revL pa, fun M s σ H Q rl q => sa M s σ H _ rl ?_⟩
  unfold aC1 at q
  cases hf : f s with
  | stuck => rw [hf] at q; exact q.elim
  | exc c d s1 => rw [hf] at q; exact q
  | ok x s1 =>
    rw [hf] at q
    refine fun M1 H1 e1 r1 v1 h1 => ?_
    have q : GoodE N W σ M H (liftL (revLD x) s1) _ := q
    cases hz : revLD x with
    | none => rw [hz] at q; exact q.elim
    | some z =>
      rw [hz] at q
      unfold revLD at hz
      split at hz
      · cases hz
        obtain ⟨a, xs, rfl, h2, h3⟩ := h1.list
        refine ⟨a, xs, rfl, .of h2, fun p np => ?_⟩
        obtain ⟨_, e⟩ := r1.toRelC.laid (xs := xs.reverse) np
        exact q _ _ (e1.trans e) (r1.laid np) p _ (e1.fresh rl.toRelC np) own1_same upd_same (e.ra h3.reverse)
      · cases hz
/-- a name of the module -/
theorem se_glob {x : Str} {v : V} {u : Value} {d : D} (hg : Gl X x) (hm : X.mg x = some u) (r : RelV v u) (h : ∀ M H, R N.K M H v d) (hd : (x == ("__debug__" : Str)) = false := by decide) : SE N W X (.Name x pos) (eC d) := ⟨_, pe_glob hg hm r hd, sim_c h⟩
/-! ### cells -/
/-- c[i], c a cell -/
def cellIx (i : Int) (s : S) : D → Option D
  | .cell n => match s.cs[n]? with
    | some (.lst l) => atI l i
    | _ => none
  | _ => none
def eIxC (fa fb : Ex) : Ex := fun s => (fa s).bind fun x s1 => (fb s1).bind fun y s2 => match y with
  | .int i => lift (cellIx i s2 x) s2
  | _ => .stuck
theorem cell_at {M : MM} {H : Hp} {s : S} {σ : St} {v : V} {n : Nat} {l : List D} (rl : Rel N M s σ H) (h : R N.K M H v (.cell n)) (hc : s.cs[n]? = some (.lst l)) : ∃ a xs, v = .ref a ∧ M a = some (.cell n) ∧ H a = some (.lst xs) ∧ RA N.K M H xs l := by
  cases h with
  | cell m =>
    obtain ⟨b, m2, xs, h1, h2⟩ := rl.cell n _ hc
    rw [rl.uniq _ _ n m2 m] at h1
    exact ⟨_, xs, rfl, m, h1, h2⟩
theorem se_ixC {b : Expr} {fb : Ex} (hK : X.K = N.K) (ha : SE N W X a fa) (hb : SE N W X b fb) (hs : PlainIx b) : SE N W X (.Subscript a b pos) (eIxC fa fb) := by
  obtain ⟨ta, pa, sa⟩ := ha
  obtain ⟨tb, pb, sb⟩ := hb
  refine ⟨_, pe_ix (hK ▸ ix_list) pa pb hs, fun M s σ H Q rl q => ?_⟩
  refine sa M s σ H _ rl (q.bind.imp fun M1 H1 x s1 e1 r1 q1 v1 h1 => ?_)
  refine sb M1 s1 σ H1 _ r1 (q1.bind.imp fun M2 H2 y s2 e2 r2 q2 v2 h2 => ?_)
  split at q2
  · rename_i i
    cases hz : cellIx i s2 x with
    | none => rw [hz] at q2; exact q2.elim
    | some z =>
      rw [hz] at q2
      unfold cellIx at hz
      split at hz
      · split at hz
        · rename_i n _ l hc
          obtain ⟨a, xs, rfl, m, k1, k2⟩ := cell_at r2 (e2.r h1) hc
          cases h2
          obtain ⟨v, k3, k4⟩ := k2.at hz
          exact ⟨a, xs, i, v, rfl, rfl, .of k1, k3, q2.here r2 _ k4⟩
        · cases hz
      · cases hz
  · exact q2.elim
/-- a new list becomes a cell -/
def eNew (f : As) : Ex := fun s => (f s).bind fun ds s1 => .ok (.cell s1.cs.length) { s1 with cs := s1.cs ++ [.lst ds] }
theorem Rel.newCell {M : MM} {H : Hp} {s : S} {σ : St} {p : Addr} {xs : List V} {ds : List D} (rl : Rel N M s σ H) (m : M p = some .far) (h : H p = some (.lst xs)) (q : RA N.K M H xs ds) :
    Rel N (own1 M p (some (.cell s.cs.length))) { s with cs := s.cs ++ [.lst ds] } σ H := by
  have e := ext0_own (w := some (.cell s.cs.length)) (H := H) m
  have ne : ∀ a w, M a = some w → w ≠ .far → a ≠ p := fun a w h1 h2 z => by
    rw [z, m] at h1
    exact h2 (Option.some.inj h1).symm
  refine ⟨⟨fun n c h1 => ?_, fun a b n h1 h2 => ?_, fun a n h1 => ?_, fun a w h1 => ?_, rl.tabs⟩, rl.len, fun i d h1 => ?_, fun i l h1 => ?_⟩
  · by_cases hn : n < s.cs.length
    · rw [List.getElem?_append_left hn] at h1
      obtain ⟨a, k1, k2⟩ := rl.cell n c h1
      exact ⟨a, by rw [own1_ne (ne a _ k1 (fun z => nomatch z))]; exact k1, k2.ext e rfl⟩
    · rw [List.getElem?_append_right (by omega)] at h1
      have hn2 : n - s.cs.length = 0 := by
        have := (List.getElem?_eq_some_iff.mp h1).1
        simp at this
        omega
      rw [hn2] at h1
      cases h1
      have : n = s.cs.length := by omega
      subst this
      exact ⟨p, own1_same, xs, h, e.ra q⟩
  · by_cases ha : a = p
    · by_cases hb : b = p
      · rw [ha, hb]
      · rw [ha, own1_same] at h1
        rw [own1_ne hb] at h2
        cases h1
        exact absurd (rl.csz b _ h2) (Nat.lt_irrefl _)
    · by_cases hb : b = p
      · rw [hb, own1_same] at h2
        rw [own1_ne ha] at h1
        cases h2
        exact absurd (rl.csz a _ h1) (Nat.lt_irrefl _)
      · rw [own1_ne ha] at h1
        rw [own1_ne hb] at h2
        exact rl.uniq a b n h1 h2
  · rw [List.length_append, List.length_singleton]
    by_cases ha : a = p
    · rw [ha, own1_same] at h1
      cases h1
      exact Nat.lt_succ_self _
    · rw [own1_ne ha] at h1
      exact Nat.lt_succ_of_lt (rl.csz a n h1)
  · by_cases ha : a = p
    · subst ha
      exact rl.mdom a _ m
    · rw [own1_ne ha] at h1
      exact rl.mdom a w h1
  · obtain ⟨v, k1, k2⟩ := rl.sv i d h1
    exact ⟨v, k1, e.r k2⟩
  · obtain ⟨a, ys, k1, k2, k3, k4⟩ := rl.own i l h1
    exact ⟨a, ys, k1, by rw [own1_ne (ne a _ k2 (fun z => nomatch z))]; exact k2, k3, e.ra k4⟩
theorem se_new {fs : As} (h : SF N W X e fs) : SE N W X e (eNew fs) := by
  obtain ⟨t, pt, st⟩ := h
  refine ⟨_, pt, fun M s σ H Q rl q => st M s σ H _ rl ?_⟩
  unfold eNew at q
  cases hf : fs s with
  | stuck => rw [hf] at q; exact q.elim
  | exc c d s1 => rw [hf] at q; exact q
  | ok ds s1 =>
    rw [hf] at q
    refine fun M1 H1 e1 r1 p xs f m hp h1 => ?_
    exact q _ _ (e1.ownW f) (r1.newCell m hp h1) _ (.cell own1_same)
end
end Z
/-! ## targets, statements, loops, comprehensions -/
namespace Z
open PySem PySem.Spec L2 GxR
open PyProof.Rows hiding St
inductive Fl where
  | nx | rt (d : D)
abbrev Ss := S → Res Fl
abbrev Tg := D → S → Res Unit
abbrev Tgs := List D → S → Res Unit
abbrev Is := S → Res (List D)
def SimG (N : En) (W : WX) (t : TG) (f : Tg) (ts : List Nat) : Prop := ∀ M s σ H v d Q, Rel N M s σ H → R N.K M H v d → GoodS N W M H (f d s) (fun _ H' σ' _ _ => wipe σ' ts = wipe σ ts → Q σ' H') → t v σ H Q
def SimGs (N : En) (W : WX) (t : TGs) (f : Tgs) (ts : List Nat) : Prop := ∀ M s σ H vs ds Q, Rel N M s σ H → RA N.K M H vs ds → GoodS N W M H (f ds s) (fun _ H' σ' _ _ => wipe σ' ts = wipe σ ts → Q σ' H') → t vs σ H Q
def SimS (N : En) (W : WX) (t : TS) (f : Ss) : Prop := ∀ M s σ H (D : Ends), Rel N M s σ H → GoodS N W M H (f s) (fun M' H' σ' fl _ => match fl with
  | .nx => D.nx σ' H'
  | .rt d => ∀ v, R N.K M' H' v d → D.rt v H') → t D σ H
/-- an iterator goes through these data -/
def Steps (N : En) (M0 : MM) (H0 : Hp) (J : It) (ds : List D) : Prop := ∀ M H cs, Ext M0 H0 M H → RelC N M cs H → ∀ i : Nat, (ds.length ≤ i → J.stop i H) ∧
  ∀ d, ds[i]? = some d → J.go i H ∧ ∀ x H', J.yld i H x H' → Same H H' ∧ R N.K M H' x d
def SimI (N : En) (W : WX) (t : TI) (f : Is) : Prop := ∀ M s σ H Q, Rel N M s σ H → GoodE N W σ M H (f s) (fun M' H' ds _ => ∀ J, Steps N M' H' J ds → Q J H') → t σ H Q
def SG (N : En) (W : WX) (X : Cx) (tg : Expr) (f : Tg) (ts : List Nat) : Prop := ∃ t, PG X tg t ∧ SimG N W t f ts
def SGs (N : En) (W : WX) (X : Cx) (tgs : List Expr) (f : Tgs) (ts : List Nat) : Prop := ∃ t, PGs X tgs t ∧ SimGs N W t f ts
def SS (N : En) (W : WX) (X : Cx) (st : Stmt) (f : Ss) : Prop := ∃ t, PS X st t ∧ SimS N W t f
def SSs (N : En) (W : WX) (X : Cx) (st : List Stmt) (f : Ss) : Prop := ∃ t, PSs X st t ∧ SimS N W t f
def SI (N : En) (W : WX) (X : Cx) (tg it : Expr) (f : Is) : Prop := ∃ t, PI X tg it t ∧ SimI N W t f
/-! ### the functions -/
def gN (i : Nat) : Tg := fun d s => .ok () { s with ρ := s.ρ.set i (.sv d) }
def gT (n : Nat) (fs : Tgs) : Tg := fun d s => match d with
  | .tup l => if l.length = n then fs l s else .stuck
  | _ => .stuck
def gNil : Tgs := fun l s => match l with
  | [] => .ok () s
  | _ => .stuck
def gCons (f : Tg) (fs : Tgs) : Tgs := fun l s => match l with
  | d :: r => (f d s).bind fun _ s1 => fs r s1
  | [] => .stuck
def sNil : Ss := fun s => .ok .nx s
def sCons (f g : Ss) : Ss := fun s => (f s).bind fun fl s1 => match fl with
  | .nx => g s1
  | .rt d => .ok (.rt d) s1
def sSet (i : Nat) (f : Ex) : Ss := fun s => (f s).bind fun d s1 => .ok .nx { s1 with ρ := s1.ρ.set i (.sv d) }
def sOwn (i : Nat) (f : As) : Ss := fun s => (f s).bind fun l s1 => .ok .nx { s1 with ρ := s1.ρ.set i (.own l) }
def sAsg (g : Tg) (f : Ex) : Ss := fun s => (f s).bind fun d s1 => (g d s1).bind fun _ s2 => .ok .nx s2
def sPar (i j : Nat) (f : As) : Ss := fun s => (f s).bind fun ds s1 => match ds with
  | [a, b] => .ok .nx { s1 with ρ := (s1.ρ.set i (.sv a)).set j (.sv b) }
  | _ => .stuck
def sAug (g : D → D → Option D) (i : Nat) (f : Ex) : Ss := fun s => (eOpL g i f s).bind fun d s1 => .ok .nx { s1 with ρ := s1.ρ.set i (.sv d) }
def sEx (f : Ex) : Ss := fun s => (f s).bind fun _ s1 => .ok .nx s1
def sRet (f : Ex) : Ss := fun s => (f s).bind fun d s1 => .ok (.rt d) s1
def sRetN : Ss := fun s => .ok (.rt .non) s
def sIf (t : Ts) (f g : Ss) : Ss := fun s => (t s).bind fun b s1 => if b = true then f s1 else g s1
def sNever : Ss := fun _ => .stuck
def sApp (i : Nat) (f : Ex) : Ss := fun s => match s.ρ[i]? with
  | some (.own _) => (f s).bind fun d s1 => (match s1.ρ[i]? with
    | some (.own l) => if l.length < 100000 then .ok .nx { s1 with ρ := s1.ρ.set i (.own (l ++ [d])) } else .stuck
    | _ => .stuck)
  | _ => .stuck
def sExt (i : Nat) (f : Ex) : Ss := fun s => match s.ρ[i]? with
  | some (.own _) => (f s).bind fun d s1 => (match s1.ρ[i]?, d with
    | some (.own l), .lst l2 => if l.length + l2.length ≤ 100000 then .ok .nx { s1 with ρ := s1.ρ.set i (.own (l ++ l2)) } else .stuck
    | _, _ => .stuck)
  | _ => .stuck
/-- l[k] = d -/
def setAt (l : List D) (k : Int) (d : D) : Option (List D) := (ixN l.length k).map fun j => l.set j d
def sSetIx (i : Nat) (fk : Ex) (f : Ex) : Ss := fun s => (f s).bind fun d s1 => match slotD i s1 with
  | some _ => (fk s1).bind fun k s2 => (match s2.ρ[i]?, k with
    | some (.own l), .int k => (match setAt l k d with
      | some l' => .ok .nx { s2 with ρ := s2.ρ.set i (.own l') }
      | none => .stuck)
    | _, _ => .stuck)
  | none => .stuck
def sSetC (fo fk f : Ex) : Ss := fun s => (f s).bind fun d s1 => (fo s1).bind fun o s2 => (fk s2).bind fun k s3 => match o, k with
  | .cell n, .int k => (match s3.cs[n]? with
    | some (.lst l) => (match setAt l k d with
      | some l' => .ok .nx { s3 with cs := s3.cs.set n (.lst l') }
      | none => .stuck)
    | _ => .stuck)
  | _, _ => .stuck
def forL (g : Tg) (b : Ss) : List D → S → Res Fl
  | [], s => .ok .nx s
  | d :: ds, s => (g d s).bind fun _ s1 => (b s1).bind fun fl s2 => match fl with
    | .nx => forL g b ds s2
    | .rt v => .ok (.rt v) s2
def sFor (fi : Is) (g : Tg) (b : Ss) : Ss := fun s => (fi s).bind fun ds s1 => forL g b ds s1
def whileN (t : Ts) (b : Ss) : Nat → S → Res Fl
  | 0, _ => .stuck
  | n + 1, s => (t s).bind fun c s1 => if c = true then ((b s1).bind fun fl s2 => match fl with
    | .nx => whileN t b n s2
    | .rt v => .ok (.rt v) s2) else .ok .nx s1
def wipeL : List Nat → List Slot → List Slot
  | [], l => l
  | i :: r, l => (wipeL r l).set i .un
def restL (l0 : List Slot) : List Nat → List Slot → List Slot
  | [], l => l
  | i :: r, l => (restL l0 r l).set i (match l0[i]? with
    | some (.sv d) => .sv d
    | _ => .un)
def wipeS (vs : List Nat) (s : S) : S := { s with ρ := wipeL vs s.ρ }
def restS (vs : List Nat) (s0 s : S) : S := { s with ρ := restL s0.ρ vs s.ρ }
def compL (vs : List Nat) (g : Tg) (t : Ts) (f : Ex) : List D → S → Res (List D)
  | [], s => .ok [] s
  | d :: ds, s => (g d (wipeS vs s)).bind fun _ s1 => (t s1).bind fun b s2 => if b = true then ((f s2).bind fun y s3 => (compL vs g t f ds s3).bind fun ys s4 => .ok (y :: ys) s4) else compL vs g t f ds s2
def Res.nox {α : Type} (r : Res α) : Res α := match r with
  | .exc _ _ _ => .stuck
  | x => x
def aLc (vs : List Nat) (fi : Is) (g : Tg) (t : Ts) (f : Ex) : As := fun s => (fi s).bind fun ds s1 => if ds.length ≤ 100000 then ((compL vs g t f ds s1).nox.bind fun ys s2 => .ok ys (restS vs s1 s2)) else .stuck
def tYes : Ts := fun s => .ok true s
/-- all (brk = false), any (brk = true) of what comes -/
def genL (brk : Bool) (vs : List Nat) (g : Tg) (f : Ex) : List D → S → Res Bool
  | [], s => .ok (!brk) s
  | d :: ds, s => (g d (wipeS vs s)).bind fun _ s1 => (f s1).bind fun y s2 => match y with
    | .bl b => if b = brk then .ok brk s2 else genL brk vs g f ds s2
    | _ => .stuck
def eGen (brk : Bool) (vs : List Nat) (fi : Is) (g : Tg) (f : Ex) : Ex := fun s => (fi s).bind fun ds s1 => (genL brk vs g f ds s1).nox.bind fun b s2 => .ok (.bl b) (restS vs s1 s2)
abbrev WF : WX := fun _ _ _ _ => False
section
variable {N : En} {W : WX} {X : Cx} {M : MM} {H : Hp} {s : S} {σ : St}
theorem wipe_set {i : Nat} {x : Option V} : ∀ {ts : List Nat}, i ∈ ts → wipe (σ.set i x) ts = wipe σ ts
  | j :: ts, h => by
    rw [wipe, wipe]
    by_cases hi : i ∈ ts
    · rw [wipe_set hi]
    · have e : i = j := by
        rcases List.mem_cons.mp h with z | z
        · exact z
        · exact absurd z hi
      subst e
      have : ∀ ts : List Nat, i ∉ ts → wipe (σ.set i x) ts = (wipe σ ts).set i x := fun ts => by
        induction ts with
        | nil => intro _; rfl
        | cons k ts ih =>
          intro hk
          rw [wipe, wipe, ih (fun z => hk (List.mem_cons_of_mem _ z)), List.set_comm]
          rintro rfl
          exact hk List.mem_cons_self
      rw [this ts hi, List.set_set]
theorem sg_name {i : Nat} {x : Str} {pos : Pos} (hN : X.N.Nodup) (hi : X.N[i]? = some x) (hx : Loc X.env.scope x) (hf : X.fn x = true ∨ X.env.scope.names.lookup x = some .local := by first | exact .inl rfl | exact .inr rfl | assumption) : SG N W X (.Name x pos) (gN i) [i] :=
  ⟨_, pg_name hN hi hx hf, fun M s σ H v d Q rl h q => q M H (σ.set i (some v)) (Ext.refl M H) (rl.set h) (wipe_set (List.mem_singleton_self i))⟩
theorem sgs_nil : SGs N W X [] gNil [] := ⟨_, pgs_nil, fun M s σ H vs ds Q rl h q => by
  cases h with
  | nil => exact ⟨rfl, q.here rl rfl⟩
  | cons _ _ => exact q.elim⟩
theorem wipe_app : ∀ {a b : List Nat}, wipe σ (a ++ b) = wipe (wipe σ b) a
  | [], _ => rfl
  | i :: a, b => by rw [List.cons_append, wipe, wipe, wipe_app]
theorem wipe_comm {a b : List Nat} : wipe (wipe σ b) a = wipe (wipe σ a) b := by
  induction a generalizing σ with
  | nil => rfl
  | cons i a ih =>
    rw [wipe, wipe, ih]
    have : ∀ (τ : St) (b : List Nat), wipe (τ.set i none) b = (wipe τ b).set i none := fun τ b => by
      induction b with
      | nil => rfl
      | cons k b ih =>
        rw [wipe, wipe, ih]
        by_cases e : i = k
        · subst e; rw [List.set_set]
        · exact List.set_comm _ _ e
    rw [this]
theorem sgs_cons {e : Expr} {es : List Expr} {f : Tg} {fs : Tgs} {a b : List Nat} (h1 : SG N W X e f a) (h2 : SGs N W X es fs b) (hs : (assignEach (e :: es) X.env).map (·.2) = assign e X.env :: (assignEach es X.env).map (·.2) := by rfl) : SGs N W X (e :: es) (gCons f fs) (a ++ b) := by
  obtain ⟨t, pt, st⟩ := h1
  obtain ⟨u, pu, su⟩ := h2
  refine ⟨_, pgs_cons pt pu hs, fun M s σ H vs ds Q rl h q => ?_⟩
  cases h with
  | nil => exact q.elim
  | @cons v vs d ds hv ht =>
    refine ⟨v, vs, rfl, st M s σ H v d _ rl hv ?_⟩
    have q : GoodS N W M H ((f d s).bind fun _ s1 => fs ds s1) _ := q
    refine q.bind.imp fun M1 H1 σ1 _ s1 e1 r1 q1 w1 => ?_
    refine su M1 s1 σ1 H1 vs ds _ r1 (e1.ra ht) (q1.imp fun M2 H2 σ2 _ s2 e2 r2 q2 w2 => q2 ?_)
    rw [wipe_app, wipe_app, w2, ← wipe_comm, w1, wipe_comm]
theorem sg_tup {es : List Expr} {k n : Nat} {f : Tgs} {ts : List Nat} {pos : Pos} (hK : X.K = N.K) (hc : X.calm = true) (h : SGs N W X es f ts) (hn : (assignEach es X.env).length = n := by rfl) (hst : (assignEach es X.env).findIdx? (·.1) = none := by rfl) : SG N W X (.Tuple es k pos) (gT n f) ts := by
  obtain ⟨t, pt, st⟩ := h
  refine ⟨_, pg_tup hc pt hn hst, fun M s σ H v d Q rl h q => ?_⟩
  unfold gT at q
  split at q
  · split at q
    · rename_i l hl
      cases h with
      | tup h1 h2 => exact ⟨_, _, rfl, hK ▸ h1.sq, h2.length.trans hl, st M s σ H _ l Q rl h2 q⟩
    · exact q.elim
  · exact q.elim
/-! ### statements -/
variable {e : Expr} {st : Stmt} {rest : List Stmt} {f f' : Ss} {fe : Ex} {pos : Pos}
theorem sss_nil : SSs N W X [] sNil := ⟨_, pss_nil, fun M s σ H D rl q => q.here rl⟩
theorem sss_one (h : SS N W X st f) : SSs N W X [st] f := by
  obtain ⟨t, pt, h⟩ := h
  exact ⟨t, pss_one pt, h⟩
theorem sss_cons (h : SS N W X st f) (h' : SSs N W X rest f') : SSs N W X (st :: rest) (sCons f f') := by
  obtain ⟨t, pt, h⟩ := h
  obtain ⟨u, pu, h'⟩ := h'
  refine ⟨_, pss_cons pt pu, fun M s σ H D rl q => h M s σ H _ rl (q.bind.imp fun M1 H1 σ1 fl s1 e1 r1 q1 => ?_)⟩
  cases fl with
  | nx => exact h' M1 s1 σ1 H1 D r1 q1
  | rt d => exact q1.here r1
theorem ss_never : SS N W X st sNever := ⟨_, ps_never, fun M s σ H D rl q => q.elim⟩
theorem sss_never {sts : List Stmt} : SSs N W X sts sNever := ⟨_, pss_never, fun M s σ H D rl q => q.elim⟩
theorem ss_set {i : Nat} {x : Str} {pos' : Pos} (hN : X.N.Nodup) (hi : X.N[i]? = some x) (hx : Loc X.env.scope x) (he : SE N W X e fe) (hs : swapsWith e (some (.Name x pos')) pos.line X.env = pure false := by rfl) (hf : X.fn x = true ∨ X.env.scope.names.lookup x = some .local := by first | exact .inl rfl | exact .inr rfl | assumption) :
    SS N W X (.Assign [.Name x pos'] e pos) (sSet i fe) := by
  obtain ⟨t, pt, h⟩ := he
  exact ⟨_, ps_set hN hi hx pt hs hf, fun M s σ H D rl q => h M s σ H _ rl (q.bindE.imp fun M1 H1 d s1 e1 r1 q1 v h1 => q1.at (Ext.refl _ _) (r1.set h1))⟩
theorem ss_own {i : Nat} {x : Str} {pos' : Pos} {fl : As} (hN : X.N.Nodup) (hi : X.N[i]? = some x) (hx : Loc X.env.scope x) (he : SF N W X e fl) (hs : swapsWith e (some (.Name x pos')) pos.line X.env = pure false := by rfl) (hf : X.fn x = true ∨ X.env.scope.names.lookup x = some .local := by first | exact .inl rfl | exact .inr rfl | assumption) :
    SS N W X (.Assign [.Name x pos'] e pos) (sOwn i fl) := by
  obtain ⟨t, pt, h⟩ := he
  refine ⟨_, ps_set hN hi hx pt hs hf, fun M s σ H D rl q => h M s σ H _ rl ?_⟩
  unfold sOwn at q
  cases hf : fl s with
  | stuck => rw [hf] at q; exact q.elim
  | exc c d s1 => rw [hf] at q; exact q
  | ok ds s1 =>
    rw [hf] at q
    refine fun M1 H1 e1 r1 p xs fr m hp h1 => ?_
    exact q _ _ _ (e1.ownW fr) (r1.setOwn m hp h1)
theorem ss_asg {tg : Expr} {g : Tg} {ts : List Nat} (he : SE N W X e fe) (hg : SG N W X tg g ts) (hs : swapsWithSole [tg] e pos.line X.env = pure false := by rfl) (hw : swappedStores [tg] e X.env = pure none := by rfl)
    (h1 : (assignEach [tg] X.env).map (·.2) = [assign tg X.env] := by rfl) : SS N W X (.Assign [tg] e pos) (sAsg g fe) := by
  obtain ⟨t, pt, h⟩ := he
  obtain ⟨u, pu, hu⟩ := hg
  refine ⟨_, ps_asg pt pu hs hw h1, fun M s σ H D rl q => h M s σ H _ rl (q.bindE.imp fun M1 H1 d s1 e1 r1 q1 v hv => ?_)⟩
  exact hu M1 s1 σ H1 v d _ r1 hv (q1.bind.imp fun M2 H2 σ2 _ s2 e2 r2 q2 _ => q2.here r2)
theorem ss_par {i j : Nat} {x y : Str} {a b : Expr} {fs : As} {px py pt : Pos} {kt k2 pt2} (hc : X.calm = true) (hN : X.N.Nodup) (hi : X.N[i]? = some x) (hj : X.N[j]? = some y) (hij : i ≠ j)
    (hx : X.env.scope.names.lookup x = some .local) (hy : X.env.scope.names.lookup y = some .local) (ha : SA N W X [a, b] fs)
    (hw : swappedStores [.Tuple [.Name x px, .Name y py] kt pt] (.Tuple [a, b] k2 pt2) X.env = pure (some [x, y]))
    (hs : swapsWithSole [.Tuple [.Name x px, .Name y py] kt pt] (.Tuple [a, b] k2 pt2) pos.line X.env = pure false := by rfl) :
    SS N W X (.Assign [.Tuple [.Name x px, .Name y py] kt pt] (.Tuple [a, b] k2 pt2) pos) (sPar i j fs) := by
  obtain ⟨t, pt, h, _⟩ := ha
  refine ⟨_, ps_par hc hN hi hj hij hx hy pt hw hs, fun M s σ H D rl q => h M s σ H _ rl (q.bindE.imp fun M1 H1 d s1 e1 r1 q1 v hv => ?_)⟩
  cases hv with
  | nil => exact q1.elim
  | cons h1 hv =>
    cases hv with
    | nil => exact q1.elim
    | cons h2 hv =>
      cases hv with
      | cons _ _ => exact q1.elim
      | nil => exact ⟨_, _, rfl, q1.at (Ext.refl _ _) ((r1.set h1).set h2)⟩
theorem ss_aug {i : Nat} {x : Str} {op : Operator} {r : R2} {G : D → D → Option D} {pos' : Pos} (hN : X.N.Nodup) (hi : X.N[i]? = some x) (hx : Loc X.env.scope x) (he : SE N W X e fe) (ho : OpR X (inplaceOp op) r) (hr : OpSim N r G) (hf : X.fn x = true ∨ X.env.scope.names.lookup x = some .local := by first | exact .inl rfl | exact .inr rfl | assumption) :
    SS N W X (.AugAssign (.Name x pos') op e pos) (sAug G i fe) := by
  obtain ⟨t, pt, h⟩ := he
  refine ⟨_, ps_aug (ti := r) hN hi hx pt ho hf, fun M s σ H D rl q => ?_⟩
  have sim := sim_opL (W := W) hr (i := i) (fun M s σ H Q rl q => h M s σ H Q rl (q.imp fun _ _ _ _ _ _ k v hv => k v hv.rb))
  obtain ⟨v, h1, h2⟩ := sim M s σ H (fun z H2 => D.nx (σ.set i (some z)) H2) rl (q.bindE.imp fun M1 H1 d s1 e1 r1 q1 v hv => q1.at (Ext.refl _ _) (r1.set hv))
  exact ⟨v, h1, h2⟩
theorem ss_ex (he : SE N W X e fe) (hs : swapsWith e none pos.line X.env = pure false := by rfl) : SS N W X (.Expr e pos) (sEx fe) := by
  obtain ⟨t, pt, h⟩ := he
  exact ⟨_, ps_expr pt hs, fun M s σ H D rl q => h M s σ H _ rl (q.bindE.imp fun M1 H1 d s1 e1 r1 q1 v hv => q1.here r1)⟩
theorem ss_ret (he : SE N W X e fe) : SS N W X (.Return (some e) pos) (sRet fe) := by
  obtain ⟨t, pt, h⟩ := he
  exact ⟨_, ps_ret pt, fun M s σ H D rl q => h M s σ H _ rl (q.bindE.imp fun M1 H1 d s1 e1 r1 q1 v hv => q1.at (Ext.refl _ _) r1 v hv)⟩
theorem ss_retN : SS N W X (.Return none pos) sRetN := ⟨_, ps_retN, fun M s σ H D rl q => q.here rl _ .non⟩
theorem ss_if {c : Expr} {t : Ts} {a b : List Stmt} (hc : ST N W X c t) (ha : SSs N W X a f) (hb : SSs N W X b f') : SS N W X (.If c a b pos) (sIf t f f') := by
  obtain ⟨tc, pc, hc⟩ := hc
  obtain ⟨ta, pa, ha⟩ := ha
  obtain ⟨tb, pb, hb⟩ := hb
  refine ⟨_, ps_if pc pa pb, fun M s σ H D rl q => hc M s σ H _ rl (q.bindE.imp fun M1 H1 x s1 e1 r1 q1 => ?_)⟩
  cases x with
  | true => exact iteT (ha M1 s1 σ H1 D r1 q1)
  | false => exact iteF (hb M1 s1 σ H1 D r1 q1)
theorem own_at {i : Nat} {l : List D} (rl : Rel N M s σ H) (h : s.ρ[i]? = some (.own l)) : ∃ a xs, σ[i]? = some (some (.ref a)) ∧ M a = some (.slot i) ∧ H a = some (.lst xs) ∧ RA N.K M H xs l := rl.own i l h
theorem ss_app {o : Expr} {i : Nat} {apos cpos : Pos} (po : PE X o (tVar i)) (he : SE N W X e fe)
    (hbase : attributeBase o "append" X.env (eval o X.env) = eval o X.env := by rfl)
    (hfew : ((backTo cpos (starEach [e] X.env)).all (fun x => !x.1) && (backToKw cpos (keywordEach [] X.env)).all (fun x => x.1.isSome) && decide ([e].length + ([] : List Keyword).length + (if ([] : List Keyword).isEmpty then 0 else 1) < 30)) = true := by rfl)
    (hline : (apos.endLine == cpos.line) = true := by rfl) (hs : starEach [e] X.env = (false, eval e X.env) :: starEach [] X.env := by rfl) (hplain : (backTo cpos (starEach [] X.env)).any (·.1) = false := by rfl)
    (hsw : swapsWith (.Call (.Attribute o "append" apos) [e] [] cpos) none pos.line X.env = pure false := by rfl) : SS N W X (.Expr (.Call (.Attribute o "append" apos) [e] [] cpos) pos) (sApp i fe) := by
  obtain ⟨t, pt, h⟩ := he
  refine ⟨_, ps_expr (pe_bm PySem.F.plainAttrs_list PySem.F.slot_list_append PySem.F.type_list_append mt_append po (pa_cons pt pa_nil hs) hbase hfew hline hs hplain) hsw, fun M s σ H D rl q => ?_⟩
  unfold sApp at q
  split at q
  · rename_i l0 h0
    obtain ⟨a, xs, k1, m, k2, k3⟩ := rl.own i l0 h0
    refine ⟨_, k1, .inl ⟨rfl, xs, .of k2⟩, ?_⟩
    refine h M s σ H _ rl (q.bindE.imp fun M1 H1 d s1 e1 r1 q1 v hv => ?_)
    split at q1
    · rename_i l h1
      split at q1
      · rename_i hl
        obtain ⟨b, ys, j1, m1, j2, j3⟩ := r1.own i l h1
        rw [k1] at j1
        cases j1
        refine ⟨a, ys, v, rfl, rfl, j2, lt_line (by rw [j3.length]; exact hl), ?_⟩
        exact q1.at (ext_upd r1.toRelC m1) (r1.updL ⟨l, h1⟩ k1 m1 (j3.append (.cons hv .nil)))
      · exact q1.elim
    · exact q1.elim
  · exact q.elim
theorem ss_ext {o : Expr} {i : Nat} {apos cpos : Pos} (po : PE X o (tVar i)) (he : SE N W X e fe)
    (hbase : attributeBase o "extend" X.env (eval o X.env) = eval o X.env := by rfl)
    (hfew : ((backTo cpos (starEach [e] X.env)).all (fun x => !x.1) && (backToKw cpos (keywordEach [] X.env)).all (fun x => x.1.isSome) && decide ([e].length + ([] : List Keyword).length + (if ([] : List Keyword).isEmpty then 0 else 1) < 30)) = true := by rfl)
    (hline : (apos.endLine == cpos.line) = true := by rfl) (hs : starEach [e] X.env = (false, eval e X.env) :: starEach [] X.env := by rfl) (hplain : (backTo cpos (starEach [] X.env)).any (·.1) = false := by rfl)
    (hsw : swapsWith (.Call (.Attribute o "extend" apos) [e] [] cpos) none pos.line X.env = pure false := by rfl) : SS N W X (.Expr (.Call (.Attribute o "extend" apos) [e] [] cpos) pos) (sExt i fe) := by
  obtain ⟨t, pt, h⟩ := he
  refine ⟨_, ps_expr (pe_bm PySem.F.plainAttrs_list PySem.F.slot_list_extend PySem.F.type_list_extend mt_extend po (pa_cons pt pa_nil hs) hbase hfew hline hs hplain) hsw, fun M s σ H D rl q => ?_⟩
  unfold sExt at q
  split at q
  · rename_i l0 h0
    obtain ⟨a, xs, k1, m, k2, k3⟩ := rl.own i l0 h0
    refine ⟨_, k1, .inl ⟨rfl, xs, .of k2⟩, ?_⟩
    refine h M s σ H _ rl (q.bindE.imp fun M1 H1 d s1 e1 r1 q1 v hv => ?_)
    split at q1
    · rename_i l l2 h1
      split at q1
      · rename_i hl
        obtain ⟨b, ys, j1, m1, j2, j3⟩ := r1.own i l h1
        rw [k1] at j1
        cases j1
        cases hv with
        | lst n1 n2 n3 =>
          refine ⟨a, _, ys, _, rfl, rfl, j2, n2, len_line (by rw [j3.length, n3.length]; exact hl), ?_⟩
          exact q1.at (ext_upd r1.toRelC m1) (r1.updL ⟨l, h1⟩ k1 m1 (j3.append n3))
      · exact q1.elim
    · exact q1.elim
  · exact q.elim
end
end Z
/-! ## stores, loops, comprehensions -/
namespace Z
open PySem PySem.Spec L2 GxR
open PyProof.Rows hiding St
section
variable {N : En} {W : WX} {X : Cx} {M : MM} {H : Hp} {s : S} {σ : St} {e : Expr} {st : Stmt} {rest : List Stmt} {f f' : Ss} {fe : Ex} {pos : Pos}
theorem RA.setAt {K : PySem.W.Frag} {xs : List V} {l l' : List D} {k : Int} {v : V} {d : D} (h : RA K M H xs l) (hv : R K M H v d) (e : setAt l k d = some l') : ∃ j, ixN xs.length k = some j ∧ RA K M H (xs.set j v) l' := by
  unfold Z.setAt at e
  obtain ⟨j, e1, rfl⟩ := Option.map_eq_some_iff.mp e
  exact ⟨j, by rw [h.length]; exact e1, h.set j hv⟩
theorem ss_setIx {o k : Expr} {i : Nat} {fk : Ex} {tp : Pos} (po : PE X o (tVar i)) (hk : SE N W X k fk) (he : SE N W X e fe)
    (hs : swapsWithSole [.Subscript o k tp] e pos.line X.env = pure false := by rfl) (hw : swappedStores [.Subscript o k tp] e X.env = pure none := by rfl)
    (h1 : (assignEach [.Subscript o k tp] X.env).map (·.2) = [assign (.Subscript o k tp) X.env] := by rfl)
    (ha : ∀ v, assign (.Subscript o k tp) X.env v = (do
      let ov ← holding [v] (eval o X.env)
      let iv ← holding [v, ov] (eval k X.env)
      standAt tp
      holding [v, ov, iv] (setItem ov iv v)
      release [v, ov, iv] []) := by intro _; rfl) : SS N W X (.Assign [.Subscript o k tp] e pos) (sSetIx i fk fe) := by
  obtain ⟨t, pt, h⟩ := he
  obtain ⟨u, pu, hu⟩ := hk
  refine ⟨_, ps_asg pt (pg_sub po pu set_list ha) hs hw h1, fun M s σ H D rl q => h M s σ H _ rl (q.bindE.imp fun M1 H1 d s1 e1 r1 q1 v hv => ?_)⟩
  split at q1
  · rename_i d0 h0
    obtain ⟨v0, k1, _⟩ := slot_rb r1 h0
    refine ⟨v0, k1, ?_⟩
    refine hu M1 s1 σ H1 _ r1 (q1.bindE.imp fun M2 H2 kd s2 e2 r2 q2 kv hkv => ?_)
    split at q2
    · rename_i l k hl
      split at q2
      · rename_i l' hl'
        obtain ⟨a, xs, j1, m, j2, j3⟩ := r2.own i l hl
        rw [k1] at j1
        cases j1
        cases hkv
        obtain ⟨j, g1, g2⟩ := j3.setAt (e2.r hv) hl'
        refine ⟨a, xs, k, j, rfl, rfl, j2, g1, ?_⟩
        exact q2.at (ext_upd r2.toRelC m) (r2.updL ⟨l, hl⟩ k1 m g2)
      · exact q2.elim
    · exact q2.elim
  · exact q1.elim
/-- a cell is written -/
theorem Rel.updC (rl : Rel N M s σ H) {a : Addr} {n : Nat} {l' : List D} {xs' : List V} (hn : n < s.cs.length) (m : M a = some (.cell n)) (q : RA N.K M H xs' l') : Rel N M { s with cs := s.cs.set n (.lst l') } σ (upd H a (.lst xs')) where
  cell := fun j c hj => by
    by_cases z : n = j
    · subst z
      rw [List.getElem?_set_self hn] at hj
      cases hj
      exact ⟨a, m, xs', upd_same, (ext0_upd m).ra q⟩
    · rw [List.getElem?_set_ne z] at hj
      obtain ⟨b, k1, k2⟩ := rl.cell j c hj
      refine ⟨b, k1, k2.ext (ext0_upd m) (upd_ne ?_)⟩
      rintro rfl
      rw [m] at k1
      cases k1
      exact z rfl
  uniq := rl.uniq
  csz := fun b j hj => by rw [List.length_set]; exact rl.csz b j hj
  mdom := fun b u h1 => by
    by_cases ha : b = a
    · subst ha
      exact ⟨_, upd_same, fun _ z => nomatch z⟩
    · obtain ⟨o, k1, k2⟩ := rl.mdom b u h1
      exact ⟨o, by rw [upd_ne ha]; exact k1, k2⟩
  tabs := fun P hP => by
    obtain ⟨u, hu, n⟩ := rl.mdom a _ m
    exact tab_upd hu n (rl.tabs P hP)
  len := rl.len
  sv := fun j d hj => by
    obtain ⟨v, k1, k2⟩ := rl.sv j d hj
    exact ⟨v, k1, (ext0_upd m).r k2⟩
  own := fun j l hj => by
    obtain ⟨b, ys, k1, k2, k3, k4⟩ := rl.own j l hj
    refine ⟨b, ys, k1, k2, ?_, (ext0_upd m).ra k4⟩
    rw [upd_ne]
    · exact k3
    · rintro rfl
      rw [m] at k2
      cases k2
theorem ext_updC (r : RelC N M s.cs H) {p : Addr} {xs : List V} {n : Nat} (h : M p = some (.cell n)) : Ext M H M (upd H p (.lst xs)) where
  toExt0 := ext0_upd h
  tab := fun b hb => by
    obtain ⟨u, hu, n⟩ := r.mdom p _ h
    exact tab_upd hu n hb
  far := fun a ha => ⟨ha, upd_ne fun z => by rw [z, h] at ha; cases ha⟩
  dom := fun a o ho n => by
    by_cases z : a = p
    · subst z
      exact ⟨_, upd_same, fun _ z => nomatch z⟩
    · exact ⟨o, by rw [upd_ne z]; exact ho, n⟩
theorem ss_setC {o k : Expr} {fo fk : Ex} {tp : Pos} (hK : X.K = N.K) (ho : SE N W X o fo) (hk : SE N W X k fk) (he : SE N W X e fe)
    (hs : swapsWithSole [.Subscript o k tp] e pos.line X.env = pure false := by rfl) (hw : swappedStores [.Subscript o k tp] e X.env = pure none := by rfl)
    (h1 : (assignEach [.Subscript o k tp] X.env).map (·.2) = [assign (.Subscript o k tp) X.env] := by rfl)
    (ha : ∀ v, assign (.Subscript o k tp) X.env v = (do
      let ov ← holding [v] (eval o X.env)
      let iv ← holding [v, ov] (eval k X.env)
      standAt tp
      holding [v, ov, iv] (setItem ov iv v)
      release [v, ov, iv] []) := by intro _; rfl) : SS N W X (.Assign [.Subscript o k tp] e pos) (sSetC fo fk fe) := by
  obtain ⟨t, pt, h⟩ := he
  obtain ⟨u, pu, hu⟩ := hk
  obtain ⟨w, pw, hw'⟩ := ho
  refine ⟨_, ps_asg pt (pg_sub pw pu set_list ha) hs hw h1, fun M s σ H D rl q => h M s σ H _ rl (q.bindE.imp fun M1 H1 d s1 e1 r1 q1 v hv => ?_)⟩
  refine hw' M1 s1 σ H1 _ r1 (q1.bindE.imp fun M2 H2 od s2 e2 r2 q2 ov hov => ?_)
  refine hu M2 s2 σ H2 _ r2 (q2.bindE.imp fun M3 H3 kd s3 e3 r3 q3 kv hkv => ?_)
  split at q3
  · rename_i n k
    split at q3
    · rename_i l hl
      split at q3
      · rename_i l' hl'
        obtain ⟨a, xs, rfl, m, j2, j3⟩ := cell_at r3 (e3.r hov) hl
        cases hkv
        obtain ⟨j, g1, g2⟩ := j3.setAt (e3.r (e2.r hv)) hl'
        refine ⟨a, xs, k, j, rfl, rfl, j2, g1, ?_⟩
        exact q3.at (ext_updC r3.toRelC m) (r3.updC (List.getElem?_eq_some_iff.mp hl).1 m g2)
      · exact q3.elim
    · exact q3.elim
  · exact q3.elim
/-! ### loops -/
theorem drop_get {α : Type} {l : List α} {i : Nat} {d : α} (h : l[i]? = some d) : l.drop i = d :: l.drop (i + 1) := by
  obtain ⟨h1, h2⟩ := List.getElem?_eq_some_iff.mp h
  rw [List.drop_eq_getElem_cons h1, h2]
theorem sim_for {wi : TI} {fi : Is} {g : TG} {fg : Tg} {ts : List Nat} {tb : TS} {fb : Ss} (hi : SimI N W wi fi) (hg : SimG N W g fg ts) (hb : SimS N W tb fb) : SimS N W (tFor wi g tb) (sFor fi fg fb) := fun M s σ H D rl q => by
  refine hi M s σ H _ rl (q.bindE.imp fun M1 H1 ds s1 e1 r1 q1 J st => ?_)
  refine ⟨fun i m σ H => i + m = ds.length ∧ ∃ M s, Ext M1 H1 M H ∧ Rel N M s σ H ∧ GoodS N W M H (forL fg fb (ds.drop i) s) (fun M' H' σ' fl _ => match fl with
    | .nx => D.nx σ' H'
    | .rt d => ∀ v, R N.K M' H' v d → D.rt v H'), ⟨ds.length, Nat.zero_add _, M1, s1, Ext.refl _ _, r1, q1⟩, fun i m σ H hW => ?_⟩
  obtain ⟨hm, M2, s2, e2, r2, q2⟩ := hW
  obtain ⟨hstop, hgo⟩ := st M2 H _ e2 r2.toRelC i
  cases hd : ds[i]? with
  | none =>
    have hl : ds.length ≤ i := List.getElem?_eq_none_iff.mp hd
    refine .inl ⟨hstop hl, ?_⟩
    rw [List.drop_eq_nil_of_le hl] at q2
    exact q2.here r2
  | some d =>
    obtain ⟨h1, h2⟩ := hgo d hd
    have hlt := (List.getElem?_eq_some_iff.mp hd).1
    rw [drop_get hd] at q2
    refine .inr ⟨h1, fun σ' H' => (i + 1) + (m - 1) = ds.length ∧ ∃ M s, Ext M1 H1 M H' ∧ Rel N M s σ' H' ∧ GoodS N W M H' (forL fg fb (ds.drop (i + 1)) s) (fun M' H' σ' fl _ => match fl with
      | .nx => D.nx σ' H'
      | .rt d => ∀ v, R N.K M' H' v d → D.rt v H'), fun σ' H' p => ⟨m - 1, by omega, p⟩, fun x H' y => ?_⟩
    obtain ⟨k, hx⟩ := h2 x H' y
    have e3 := r2.toRelC.ext k
    refine hg M2 s2 σ H' x d _ (r2.same k) hx ((GoodS.rebase q2 e3).bind.imp fun M4 H4 σ4 _ s4 e4 r4 q4 _ => ?_)
    refine hb M4 s4 σ4 H4 _ r4 (q4.bind.imp fun M5 H5 σ5 fl s5 e5 r5 q5 => ?_)
    cases fl with
    | nx => exact ⟨by omega, M5, s5, ((e2.trans e3).trans e4).trans e5, r5, q5⟩
    | rt v => exact q5.here r5
theorem ss_for {tg iter : Expr} {body : List Stmt} {fi : Is} {fg : Tg} {ts : List Nat} {fb : Ss} (hp : PassesOwn (model X.prog X.w) X.A X.env X.xe) (hc : X.calm = true) (hi : SI N W X tg iter fi) (hg : SG N W X tg fg ts) (hb : SSs N W X body fb)
    (hs : ∀ x, foldedSetIterable iter X.env x = pure x := by intro _; rfl) : SS N W X (.For tg iter body [] pos) (sFor fi fg fb) := by
  obtain ⟨ti, pi, hi⟩ := hi
  obtain ⟨tg, pg, hg⟩ := hg
  obtain ⟨tb, pb, hb⟩ := hb
  exact ⟨_, ps_for hp hc pi pg pb hs, sim_for hi hg hb⟩
theorem ss_while {c : Expr} {body : List Stmt} {ft : Ts} {fb : Ss} (n : Nat) (hp : PassesOwn (model X.prog X.w) X.A X.env X.xe) (hc : ST N W X c ft) (hb : SSs N W X body fb) : SS N W X (.While c body [] pos) (whileN ft fb n) := by
  obtain ⟨tc, pc, hc⟩ := hc
  obtain ⟨tb, pb, hb⟩ := hb
  refine ⟨_, ps_while hp pc pb, fun M s σ H D rl q => ?_⟩
  refine ⟨fun m σ H => ∃ M s, Rel N M s σ H ∧ GoodS N W M H (whileN ft fb m s) (fun M' H' σ' fl _ => match fl with
    | .nx => D.nx σ' H'
    | .rt d => ∀ v, R N.K M' H' v d → D.rt v H'), ⟨n, M, s, rl, q⟩, fun m σ H hW => ?_⟩
  obtain ⟨M2, s2, r2, q2⟩ := hW
  cases m with
  | zero => exact q2.elim
  | succ m =>
    refine hc M2 s2 σ H _ r2 (q2.bindE.imp fun M3 H3 b s3 e3 r3 q3 => ?_)
    cases b with
    | true =>
      refine iteT ⟨fun σ' H' => ∃ M s, Rel N M s σ' H' ∧ GoodS N W M H' (whileN ft fb m s) (fun M' H' σ' fl _ => match fl with
        | .nx => D.nx σ' H'
        | .rt d => ∀ v, R N.K M' H' v d → D.rt v H'), fun σ' H' p => ⟨m, Nat.lt_succ_self m, p⟩, ?_⟩
      refine hb M3 s3 σ H3 _ r3 (q3.bind.imp fun M5 H5 σ5 fl s5 e5 r5 q5 => ?_)
      cases fl with
      | nx => exact ⟨M5, s5, r5, q5⟩
      | rt v => exact q5.here r5
    | false => exact iteF (q3.here r3)
/-! ### what is walked -/
def iSeq (f : Ex) : Is := fun s => (f s).bind fun x s1 => match x with
  | .tup l => .ok l s1
  | .lst l => .ok l s1
  | _ => .stuck
def rngL (lo hi : Int) : List D := (List.range (hi - lo).toNat).map fun (k : Nat) => D.int (lo + k)
def iRn1 (f : As) : Is := fun s => (f s).bind fun x s1 => match x with
  | [.int j] => if -(2 ^ 62) ≤ j ∧ j < 2 ^ 62 then .ok (rngL 0 j) s1 else .stuck
  | _ => .stuck
def iRn2 (f : As) : Is := fun s => (f s).bind fun x s1 => match x with
  | [.int i, .int j] => if -(2 ^ 62) ≤ i ∧ i < 2 ^ 62 ∧ -(2 ^ 62) ≤ j ∧ j < 2 ^ 62 then .ok (rngL i j) s1 else .stuck
  | _ => .stuck
def iRnV (f : Ex) : Is := fun s => (f s).bind fun x s1 => match x with
  | .rng i j => if -(2 ^ 62) ≤ i ∧ i < 2 ^ 62 ∧ -(2 ^ 62) ≤ j ∧ j < 2 ^ 62 then .ok (rngL i j) s1 else .stuck
  | _ => .stuck
variable {tg iter : Expr} {p : Pos}
theorem steps_list {a : Addr} {xs : List V} {l : List D} (m : M a = none) (h : H a = some (.lst xs)) (q : RA N.K M H xs l) : Steps N M H (Itl N.K a) l := fun M2 H2 cs e rc i => by
  obtain ⟨h2, m2⟩ := e.keep a _ h m (fun _ z => nomatch z)
  have uniq : ∀ ys, SqL N.K H2 a ys → SqL N.K H2 a xs → (∀ i : Nat, (∀ zs, SqL N.K H2 a zs → zs[i]? = ys[i]?) → ys[i]? = xs[i]?) := fun ys h1 h2 i h3 => (h3 xs h2).symm
  refine ⟨fun hl => ⟨xs, .of h2, by rw [q.length]; exact hl⟩, fun d hd => ?_⟩
  obtain ⟨v, k1, k2⟩ := (e.ra q).get hd
  refine ⟨⟨xs, v, .of h2, k1⟩, fun x H' y => ?_⟩
  obtain ⟨rfl, y⟩ := y
  have := y xs (.of h2)
  rw [k1] at this
  cases this
  exact ⟨Same.refl _, k2⟩
theorem steps_tup {a : Addr} {xs : List V} {l : List D} (h : StT N.K M H a xs) (q : RA N.K M H xs l) : Steps N M H (Itt N.K a) l := fun M2 H2 cs e rc i => by
  have h2 := (e.toExt0.stt h).sq
  refine ⟨fun hl => ⟨xs, h2, by rw [q.length]; exact hl⟩, fun d hd => ?_⟩
  obtain ⟨v, k1, k2⟩ := (e.ra q).get hd
  refine ⟨⟨xs, v, h2, k1⟩, fun x H' y => ?_⟩
  obtain ⟨rfl, y⟩ := y
  have := y xs h2
  rw [k1] at this
  cases this
  exact ⟨Same.refl _, k2⟩
theorem PI.or {wi wi' : TI} (h : PI X tg iter wi) (h' : PI X tg iter wi') : PI X tg iter (fun σ H R => wi σ H R ∨ wi' σ H R) :=
  ⟨fun pins s σ H R I q => q.elim (h.run pins s σ H R I) (h'.run pins s σ H R I)⟩
/-- a choice made behind an expression's value -/
theorem pi_seq {l : Expr} {tl : TE} (hl : PE X l tl) : PI X tg l (fun σ H R => tl σ H fun x H1 => ∃ a, x = .ref a ∧ (((∃ xs, SqL X.K H1 a xs) ∧ R (Itl X.K a) H1) ∨ ((∃ xs, SqT X.K H1 a xs) ∧ R (Itt X.K a) H1))) := by
  refine ⟨fun pins s σ H R I h => ?_⟩
  refine thn (hl.run pins s σ H _ I h) fun v s1 ⟨x, H1, I1, r1, q1⟩ => ?_
  obtain ⟨a, ex, q⟩ := q1
  subst ex
  cases r1
  rcases q with ⟨⟨xs, hq⟩, q⟩ | ⟨⟨xs, hq⟩, q⟩
  · obtain ⟨its, rv, p, hz⟩ := I1.list hq
    refine wpAny_pyIter_list p.isList ?_
    refine ⟨s1.heap.objs.size, [s1.heap.objs.size], _, _, H1, rfl, I1.kept (t' := s1.toks) fun b o e => Heap.get?_push_of_some _ e, turn_list a _, ⟨_, Heap.get?_push_size _ rfl, rfl, rfl⟩, fun b hb => ?_, q⟩
    have e : b = s1.heap.objs.size := by simpa using hb
    subst e
    exact I1.fpOk (Nat.le_refl _) (I1.hok.fresh (Nat.le_refl _))
  · obtain ⟨its, rv, p, hz⟩ := I1.tuple hq
    refine wpAny_pyIter_tuple (show s1.heap.IsTuple a its.toArray from p) ?_
    refine ⟨s1.heap.objs.size, [s1.heap.objs.size], _, _, H1, rfl, I1.kept (t' := s1.toks) fun b o e => Heap.get?_push_of_some _ e, turn_tuple a _, ⟨_, Heap.get?_push_size _ rfl, rfl, rfl⟩, fun b hb => ?_, q⟩
    have e : b = s1.heap.objs.size := by simpa using hb
    subst e
    exact I1.fpOk (Nat.le_refl _) (I1.hok.fresh (Nat.le_refl _))
theorem si_seq (hK : X.K = N.K) (h : SE N W X e fe) : SI N W X tg e (iSeq fe) := by
  obtain ⟨t, pt, h⟩ := h
  refine ⟨_, pi_seq pt, fun M s σ H Q rl q => h M s σ H _ rl (q.bind.imp fun M1 H1 x s1 e1 r1 q1 v h1 => ?_)⟩
  split at q1
  · cases h1 with
    | tup h2 h3 => exact ⟨_, rfl, .inr ⟨⟨_, hK ▸ h2.sq⟩, by rw [hK]; exact q1.here r1 _ (steps_tup h2 h3)⟩⟩
  · cases h1 with
    | lst m h2 h3 => exact ⟨_, rfl, .inl ⟨⟨_, .of h2⟩, by rw [hK]; exact q1.here r1 _ (steps_list m h2 h3)⟩⟩
  · exact q1.elim
theorem steps_rng {lo hi : Int} : Steps N M H (Itr lo (hi - lo).toNat) (rngL lo hi) := fun M2 H2 cs e rc i => by
  have hlen : (rngL lo hi).length = (hi - lo).toNat := by simp [rngL]
  refine ⟨fun hl => by show (hi - lo).toNat ≤ i; omega, fun d hd => ?_⟩
  have hi2 : i < (hi - lo).toNat := by
    have := (List.getElem?_eq_some_iff.mp hd).1
    omega
  have hd2 : d = .int (lo + i) := by
    unfold rngL at hd
    rw [List.getElem?_map, List.getElem?_range hi2] at hd
    exact (Option.some.inj hd).symm
  subst hd2
  refine ⟨hi2, fun x H' y => ?_⟩
  obtain ⟨rfl, rfl⟩ := y
  exact ⟨Same.refl _, .int _⟩
theorem si_rng1 {a : Expr} {fs : As} {pos : Pos} (hg : Gl X "range") (hm : X.mg "range" = none) (ha : SA N W X [a] fs) (hs : starEach [a] X.env = [(false, eval a X.env)] := by rfl) : SI N W X tg (.Call (.Name "range" p) [a] [] pos) (iRn1 fs) := by
  obtain ⟨t, pt, h, _⟩ := ha
  refine ⟨_, pi_range1 hg hm pt hs, fun M s σ H Q rl q => h M s σ H _ rl (q.bind.imp fun M1 H1 x s1 e1 r1 q1 v h1 => ?_)⟩
  split at q1
  · split at q1
    · rename_i j hj
      cases h1 with
      | cons h2 h3 =>
        cases h2
        cases h3
        refine ⟨j, rfl, hj.1, hj.2, q1.here r1 _ ?_⟩
        have := steps_rng (N := N) (M := M1) (H := H1) (lo := 0) (hi := j)
        rw [Int.sub_zero] at this
        exact this
    · exact q1.elim
  · exact q1.elim
theorem si_rng2 {a b : Expr} {fs : As} {pos : Pos} (hg : Gl X "range") (hm : X.mg "range" = none) (ha : SA N W X [a, b] fs) (hs : starEach [a, b] X.env = [(false, eval a X.env), (false, eval b X.env)] := by rfl) (hs2 : starEach [b] X.env = [(false, eval b X.env)] := by rfl) : SI N W X tg (.Call (.Name "range" p) [a, b] [] pos) (iRn2 fs) := by
  obtain ⟨t, pt, h, _⟩ := ha
  refine ⟨_, pi_range2 hg hm pt hs hs2, fun M s σ H Q rl q => h M s σ H _ rl (q.bind.imp fun M1 H1 x s1 e1 r1 q1 v h1 => ?_)⟩
  split at q1
  · split at q1
    · rename_i i j hj
      cases h1 with
      | cons h2 h3 =>
        cases h2
        cases h3 with
        | cons h4 h5 =>
          cases h4
          cases h5
          exact ⟨i, j, rfl, hj, q1.here r1 _ steps_rng⟩
    · exact q1.elim
  · exact q1.elim
theorem si_rngV (h : SE N W X e fe) : SI N W X tg e (iRnV fe) := by
  obtain ⟨t, pt, h⟩ := h
  refine ⟨_, GXX.pi_rngV pt, fun M s σ H Q rl q => h M s σ H _ rl (q.bind.imp fun M1 H1 x s1 e1 r1 q1 v h1 => ?_)⟩
  split at q1
  · split at q1
    · rename_i i j hj
      cases h1 with
      | rng m h2 => exact ⟨_, i, j, rfl, h2, hj, q1.here r1 _ steps_rng⟩
    · exact q1.elim
  · exact q1.elim
/-- range(n) kept in a name -/
def eRng1 (f : As) : Ex := fun s => (f s).bind fun x s1 => match x with
  | [.int j] => .ok (.rng 0 j) s1
  | _ => .stuck
theorem se_rng1 {a : Expr} {fs : As} {pos : Pos} (hg : Gl X "range") (hm : X.mg "range" = none) (ha : SA N W X [a] fs) (hs : starEach [a] X.env = (false, eval a X.env) :: starEach [] X.env := by rfl) : SE N W X (.Call (.Name "range" p) [a] [] pos) (eRng1 fs) := by
  obtain ⟨t, pt, h, _⟩ := ha
  refine ⟨_, pe_callTy GXX.cr_range1 hg hm (by decide +kernel) pt (by decide) (by decide) hs rfl, fun M s σ H Q rl q => h M s σ H _ rl (q.bind.imp fun M1 H1 x s1 e1 r1 q1 v h1 => ?_)⟩
  split at q1
  · rename_i j
    cases h1 with
    | cons h2 h3 =>
      cases h2
      cases h3
      exact ⟨j, rfl, fun p np => q1.grown r1 (Same.upd np) _ (.rng (r1.toRelC.fresh np) upd_same)⟩
  · exact q1.elim
/-! ### slots of a block -/
theorem wipeL_length : ∀ {vs : List Nat} {l : List Slot}, (wipeL vs l).length = l.length
  | [], _ => rfl
  | i :: r, l => by rw [wipeL, List.length_set, wipeL_length]
theorem wipeL_sv {vs : List Nat} {l : List Slot} {j : Nat} {x : Slot} (h : (wipeL vs l)[j]? = some x) (n : x ≠ .un) : l[j]? = some x ∧ j ∉ vs := by
  induction vs with
  | nil => exact ⟨h, by simp⟩
  | cons i r ih =>
    rw [wipeL] at h
    by_cases z : i = j
    · subst z
      by_cases hlt : i < (wipeL r l).length
      · rw [List.getElem?_set_self hlt] at h
        exact absurd (Option.some.inj h).symm n
      · rw [List.getElem?_eq_none (by rw [List.length_set]; omega)] at h
        cases h
    · rw [List.getElem?_set_ne z] at h
      obtain ⟨h1, h2⟩ := ih h
      exact ⟨h1, by simp only [List.mem_cons, not_or]; exact ⟨fun e => z e.symm, h2⟩⟩
theorem Rel.wipe (r : Rel N M s σ H) (vs : List Nat) : Rel N M (wipeS vs s) (wipe σ vs) H where
  toRelC := r.toRelC
  len := by
    show (L2.wipe σ vs).length = (wipeL vs s.ρ).length
    rw [wipe_length, wipeL_length]
    exact r.len
  sv := fun i d h => by
    obtain ⟨h1, h2⟩ := wipeL_sv h (fun z => nomatch z)
    rw [wipe_out h2]
    exact r.sv i d h1
  own := fun i l h => by
    obtain ⟨h1, h2⟩ := wipeL_sv h (fun z => nomatch z)
    rw [wipe_out h2]
    exact r.own i l h1
theorem restL_length {l0 : List Slot} : ∀ {vs : List Nat} {l : List Slot}, (restL l0 vs l).length = l.length
  | [], _ => rfl
  | i :: r, l => by rw [restL, List.length_set, restL_length]
theorem restL_at {l0 l : List Slot} {vs : List Nat} {j : Nat} {x : Slot} (h : (restL l0 vs l)[j]? = some x) (n : x ≠ .un) : (j ∈ vs ∧ l0[j]? = some x ∧ ∃ d, x = .sv d) ∨ (j ∉ vs ∧ l[j]? = some x) := by
  induction vs with
  | nil => exact .inr ⟨by simp, h⟩
  | cons i r ih =>
    rw [restL] at h
    by_cases z : i = j
    · subst z
      by_cases hlt : i < (restL l0 r l).length
      · rw [List.getElem?_set_self hlt] at h
        refine .inl ⟨List.mem_cons_self, ?_⟩
        cases e : l0[i]? with
        | none => rw [e] at h; exact absurd (Option.some.inj h).symm n
        | some y =>
          rw [e] at h
          cases y with
          | sv d => exact ⟨h, d, (Option.some.inj h).symm⟩
          | un => exact absurd (Option.some.inj h).symm n
          | own l => exact absurd (Option.some.inj h).symm n
      · rw [List.getElem?_eq_none (by rw [List.length_set]; omega)] at h
        cases h
    · rw [List.getElem?_set_ne z] at h
      rcases ih h with ⟨h1, h2⟩ | ⟨h1, h2⟩
      · exact .inl ⟨List.mem_cons_of_mem _ h1, h2⟩
      · exact .inr ⟨by simp only [List.mem_cons, not_or]; exact ⟨fun e => z e.symm, h1⟩, h2⟩
theorem Rel.unwipe {M0 : MM} {s0 : S} {H0 : Hp} {vs : List Nat} (r0 : Rel N M0 s0 σ H0) (e : Ext M0 H0 M H) (r : Rel N M (wipeS vs s) (L2.wipe σ vs) H) : Rel N M (restS vs s0 s) σ H where
  toRelC := r.toRelC
  len := by
    show σ.length = (restL s0.ρ vs s.ρ).length
    rw [restL_length]
    have h1 : (L2.wipe σ vs).length = (wipeL vs s.ρ).length := r.len
    rw [wipe_length, wipeL_length] at h1
    exact h1
  sv := fun i d h => by
    rcases restL_at h (fun z => nomatch z) with ⟨_, h2, _⟩ | ⟨h1, h2⟩
    · obtain ⟨v, k1, k2⟩ := r0.sv i d h2
      exact ⟨v, k1, e.r k2⟩
    · have h3 : (wipeL vs s.ρ)[i]? = some (.sv d) := by
        have : ∀ {vs : List Nat} {l : List Slot}, i ∉ vs → (wipeL vs l)[i]? = l[i]? := fun {vs l} hn => by
          induction vs with
          | nil => rfl
          | cons j r ih =>
            rw [wipeL, List.getElem?_set_ne (fun z => hn (by rw [z]; exact List.mem_cons_self))]
            exact ih (fun z => hn (List.mem_cons_of_mem _ z))
        rw [this h1]
        exact h2
      obtain ⟨v, k1, k2⟩ := r.sv i d h3
      rw [wipe_out h1] at k1
      exact ⟨v, k1, k2⟩
  own := fun i l h => by
    rcases restL_at h (fun z => nomatch z) with ⟨_, _, d, z⟩ | ⟨h1, h2⟩
    · cases z
    · have h3 : (wipeL vs s.ρ)[i]? = some (.own l) := by
        have : ∀ {vs : List Nat} {l : List Slot}, i ∉ vs → (wipeL vs l)[i]? = l[i]? := fun {vs l} hn => by
          induction vs with
          | nil => rfl
          | cons j r ih =>
            rw [wipeL, List.getElem?_set_ne (fun z => hn (by rw [z]; exact List.mem_cons_self))]
            exact ih (fun z => hn (List.mem_cons_of_mem _ z))
        rw [this h1]
        exact h2
      obtain ⟨a, xs, k1, k2⟩ := r.own i l h3
      rw [wipe_out h1] at k1
      exact ⟨a, xs, k1, k2⟩
end
end Z
/-! ## comprehensions, generator expressions, defs -/
namespace Z
open PySem PySem.Spec L2 GxR
open PyProof.Rows hiding St
section
variable {N : En} {W : WX} {X : Cx} {M M' : MM} {H H' : Hp} {s : S} {σ : St}
/-- our new list grows -/
theorem Rel.updF (r : Rel N M s σ H) {p : Addr} {xs : List V} (h : M p = some .far) : Rel N M s σ (upd H p (.lst xs)) where
  toRelC := r.toRelC.updL h (fun _ z => nomatch z)
  len := r.len
  sv := fun i d h1 => by
    obtain ⟨v, k1, k2⟩ := r.sv i d h1
    exact ⟨v, k1, (ext0_upd h).r k2⟩
  own := fun i l h1 => by
    obtain ⟨a, ys, k1, m, k2, k3⟩ := r.own i l h1
    refine ⟨a, ys, k1, m, ?_, (ext0_upd h).ra k3⟩
    rw [upd_ne]
    · exact k2
    · rintro rfl
      rw [h] at m; cases m
theorem Ext.updF (e : Ext M H M' H') {p : Addr} {xs : List V} (f : Fresh M H p) (m : ∃ ys, H' p = some (.lst ys)) : Ext M H M' (upd H' p (.lst xs)) where
  keep := fun a o h1 m1 n => by
    have ne : a ≠ p := fun z => by
      obtain ⟨ps, z2⟩ := f.2 o (z ▸ h1)
      exact n ps z2
    obtain ⟨k1, k2⟩ := e.keep a o h1 m1 n
    exact ⟨by rw [upd_ne ne]; exact k1, k2⟩
  cell := e.cell
  tab := fun b h => by
    obtain ⟨ys, hy⟩ := m
    exact tab_upd hy (fun _ z => nomatch z) (e.tab b h)
  far := fun a h1 => by
    have ne : a ≠ p := fun z => by rw [z, f.1] at h1; cases h1
    obtain ⟨k1, k2⟩ := e.far a h1
    exact ⟨k1, by rw [upd_ne ne]; exact k2⟩
  dom := fun a o h1 n => by
    obtain ⟨o', k1, k2⟩ := e.dom a o h1 n
    by_cases z : a = p
    · subst z
      exact ⟨_, upd_same, fun _ z => nomatch z⟩
    · exact ⟨o', by rw [upd_ne z]; exact k1, k2⟩
theorem GoodE.nox {α β : Type} {r : Res α} {k : α → S → Res β} {Φ : MM → Hp → β → S → Prop} (q : GoodE N W σ M H (r.nox.bind k) Φ) : GoodS N WF M H r (fun M' H' _ a s => GoodE N W σ M' H' (k a s) Φ) := by
  cases r with
  | ok a s => exact fun M2 H2 _ e2 _ => GoodE.rebase q e2
  | exc c d s => exact q.elim
  | stuck => exact q.elim
theorem GoodS.bind0 {α β : Type} {r : Res α} {k : α → S → Res β} {Φ : MM → Hp → St → β → S → Prop} (h : GoodS N W M H (r.bind k) Φ) : GoodS N W M H r (fun _ _ _ a s => GoodS N W M H (k a s) Φ) := by
  cases r with
  | ok a s => exact fun _ _ _ _ _ => h
  | exc c d s => exact h
  | stuck => exact h
theorem wipe_idem {vs : List Nat} : wipe (wipe σ vs) vs = wipe σ vs := by
  induction vs with
  | nil => rfl
  | cons j r ih =>
    rw [wipe, wipe]
    have c : wipe ((wipe σ r).set j none) r = (wipe (wipe σ r) r).set j none := wipe_comm (σ := wipe σ r) (a := r) (b := [j])
    rw [c, ih, List.set_set]
theorem sim_lc {wi : TI} {fi : Is} {g : TG} {fg : Tg} {ts vs : List Nat} {tt : TT} {ft : Ts} {te : TE} {fe : Ex} (hsub : ∀ σ σ' : St, wipe σ' ts = wipe σ ts → wipe σ' vs = wipe σ vs) (hi : SimI N W wi fi) (hg : SimG N WF g fg ts) (ht : SimT N WF tt ft) (he : SimE N WF te fe) :
    SimF N W (tLc wi g tt te vs) (aLc vs fi fg ft fe) := fun M s σ H Q rl q => by
  refine hi M s σ H _ rl ?_
  unfold aLc at q
  cases hfi : fi s with
  | stuck => rw [hfi] at q; exact q.elim
  | exc c d s1 => rw [hfi] at q; exact q
  | ok ds s1 =>
    rw [hfi] at q
    have q : GoodE N W σ M H (if ds.length ≤ 100000 then ((compL vs fg ft fe ds s1).nox.bind fun ys s2 => .ok ys (restS vs s1 s2)) else .stuck) _ := q
    split at q
    case isFalse => exact q.elim
    rename_i hlen
    refine fun M1 H1 e1 r1 J st D np => ?_
    have fr : Fresh M1 H1 D := ⟨r1.toRelC.fresh np, fun o z => by rw [np] at z; cases z⟩
    have fr0 := e1.fresh rl.toRelC np
    obtain ⟨rc0, e0⟩ := r1.toRelC.laid (xs := []) np
    have r0 := r1.laid (xs := []) np
    refine ⟨fun i m H => i + m = ds.length ∧ ∃ M s τ acc xs, Ext M1 H1 M H ∧ Rel N M s τ H ∧ wipe τ vs = wipe σ vs ∧ M D = some .far ∧ H D = some (.lst xs) ∧ RA N.K M H xs acc ∧ acc.length ≤ i ∧
        GoodS N WF M1 H1 (compL vs fg ft fe (ds.drop i) s) (fun M' H' τ ys s2 => Ext M1 H1 M' H' → Rel N M' s2 τ H' → wipe τ vs = wipe σ vs → ∀ xs, M' D = some .far → H' D = some (.lst xs) → RA N.K M' H' xs (acc ++ ys) → Q (.ref D) H'), ⟨ds.length, Nat.zero_add _, own1 M1 D (some .far), s1, σ, [], [], e0, r0, rfl, own1_same, upd_same, .nil, Nat.zero_le _, ?_⟩, fun i m H hW => ?_⟩
    · refine ((GoodE.nox q).rebase e1).imp fun M2 H2 τ ys s2 e2 r2 q2 e3 r3 w3 xs md hd ha => ?_
      rw [List.nil_append] at ha
      have r4 := r3.wipe vs
      rw [w3] at r4
      exact q2.here (r1.unwipe e3 r4) D xs fr0 md hd ha
    · obtain ⟨hm, M2, s2, τ, acc, xs, e2, r2, w2, md, hd, ha, hl, q2⟩ := hW
      obtain ⟨hstop, hgo⟩ := st M2 H _ e2 r2.toRelC i
      cases hdi : ds[i]? with
      | none =>
        have hli : ds.length ≤ i := List.getElem?_eq_none_iff.mp hdi
        refine .inl ⟨hstop hli, ?_⟩
        rw [List.drop_eq_nil_of_le hli] at q2
        exact q2 M2 H τ e2 r2 e2 r2 w2 xs md hd (by rw [List.append_nil]; exact ha)
      | some d =>
        obtain ⟨h1, h2⟩ := hgo d hdi
        have hlt := (List.getElem?_eq_some_iff.mp hdi).1
        rw [drop_get hdi, compL] at q2
        refine .inr ⟨h1, fun H' => (i + 1) + (m - 1) = ds.length ∧ ∃ M s τ acc xs, Ext M1 H1 M H' ∧ Rel N M s τ H' ∧ wipe τ vs = wipe σ vs ∧ M D = some .far ∧ H' D = some (.lst xs) ∧ RA N.K M H' xs acc ∧ acc.length ≤ i + 1 ∧
          GoodS N WF M1 H1 (compL vs fg ft fe (ds.drop (i + 1)) s) (fun M' H' τ ys s2 => Ext M1 H1 M' H' → Rel N M' s2 τ H' → wipe τ vs = wipe σ vs → ∀ xs, M' D = some .far → H' D = some (.lst xs) → RA N.K M' H' xs (acc ++ ys) → Q (.ref D) H'), fun H' p => ⟨m - 1, by omega, p⟩, fun x H' y => ?_⟩
        obtain ⟨k, hx⟩ := h2 x H' y
        have e3 := r2.toRelC.ext k
        have e13 := e2.trans e3
        have rw2 := (r2.same k).wipe vs
        rw [w2] at rw2
        refine hg M2 (wipeS vs s2) (wipe σ vs) H' x d _ rw2 hx ((GoodS.rebase q2.bind0 e13).imp fun M4 H4 σ4 _ s4 e4 r4 q4 w4 => ?_)
        have w4' : wipe σ4 vs = wipe σ vs := by rw [hsub _ _ w4, wipe_idem]
        refine ⟨by rw [w4'], ?_⟩
        refine ht M4 s4 σ4 H4 _ r4 ((GoodS.rebase q4.bind0 (e13.trans e4)).toE.imp fun M5 H5 b s5 e5 r5 q5 => ?_)
        have e25 := (e3.trans e4).trans e5
        have e15 := e2.trans e25
        obtain ⟨md5, hd5⟩ := e25.far D md
        cases b with
        | false => exact iteF ⟨by omega, M5, s5, σ4, acc, xs, e15, r5, w4', md5, hd5.trans hd, e25.ra ha, by omega, q5⟩
        | true =>
          refine iteT (he M5 s5 σ4 H5 _ r5 ((GoodS.rebase (GoodS.bind0 q5) e15).toE.imp fun M6 H6 y s6 e6 r6 q6 yv hy => ?_))
          obtain ⟨md6, hd6⟩ := e6.far D md5
          have hd6' : H6 D = some (.lst xs) := hd6.trans (hd5.trans hd)
          have e16 := e15.trans e6
          have e26 := e25.trans e6
          refine ⟨xs, hd6', lt_line (by rw [ha.length]; omega), by omega, M6, s6, σ4, acc ++ [y], xs ++ [yv], e16.updF fr ⟨xs, hd6'⟩, r6.updF md6, w4', md6, upd_same, (ext0_upd md6).ra ((e26.ra ha).append (.cons hy .nil)), by rw [List.length_append, List.length_singleton]; omega, ?_⟩
          refine (GoodS.bind0 q6).imp fun M7 H7 σ7 ys s7 e7 r7 q7 e8 r8 w8 xs2 md8 hd8 ha8 => ?_
          exact q7 M7 H7 σ7 e8 r8 e8 r8 w8 xs2 md8 hd8 (by rw [List.append_assoc] at ha8; exact ha8)
end
end Z
namespace Z
open PySem PySem.Spec L2 GxR
open PyProof.Rows hiding St
open GenW
def canE (N : En) (W : WX) (f : Ex) : TE := fun σ H Q => ∃ M s, Rel N M s σ H ∧ GoodE N W σ M H (f s) (fun M' H' d _ => ∀ v, R N.K M' H' v d → Q v H')
def canT (N : En) (W : WX) (f : Ts) : TT := fun σ H Q => ∃ M s, Rel N M s σ H ∧ GoodE N W σ M H (f s) (fun _ H' b _ => Q b H')
def canG (N : En) (W : WX) (f : Tg) (ts : List Nat) : TG := fun v σ H Q => ∃ M s d, Rel N M s σ H ∧ R N.K M H v d ∧ GoodS N W M H (f d s) (fun _ H' σ' _ _ => wipe σ' ts = wipe σ ts → Q σ' H')
def canI (N : En) (W : WX) (f : Is) : TI := fun σ H Q => ∃ M s, Rel N M s σ H ∧ GoodE N W σ M H (f s) (fun M' H' ds _ => ∀ J, Steps N M' H' J ds → Q J H')
section
variable {N : En} {W : WX} {X : Cx} {e tg iter elt : Expr} {es : List Expr}
theorem SE.can {f : Ex} (h : SE N W X e f) : PE X e (canE N W f) := by
  obtain ⟨t, p, q⟩ := h
  exact ⟨fun pins s σ H Q I hw => by
    obtain ⟨M, s', r, g⟩ := hw
    exact p.run pins s σ H Q I (q M s' σ H Q r g)⟩
theorem ST.can {f : Ts} (h : ST N W X e f) : PT X e (canT N W f) := by
  obtain ⟨t, p, q⟩ := h
  exact ⟨fun pins s σ H Q I hw => by
    obtain ⟨M, s', r, g⟩ := hw
    exact p.run pins s σ H Q I (q M s' σ H Q r g)⟩
theorem SG.can {f : Tg} {ts : List Nat} (h : SG N W X e f ts) : PG X e (canG N W f ts) := by
  obtain ⟨t, p, q⟩ := h
  exact ⟨fun pins s σ H v u Q I r hw => by
    obtain ⟨M, s', d, r', rd, g⟩ := hw
    exact p.run pins s σ H v u Q I r (q M s' σ H v d Q r' rd g)⟩
theorem SI.can {f : Is} (h : SI N W X tg iter f) : PI X tg iter (canI N W f) := by
  obtain ⟨t, p, q⟩ := h
  exact ⟨fun pins s σ H Q I hw => by
    obtain ⟨M, s', r, g⟩ := hw
    exact p.run pins s σ H Q I (q M s' σ H Q r g)⟩
theorem sim_canE {f : Ex} : SimE N W (canE N W f) f := fun M s _ _ _ r g => ⟨M, s, r, g⟩
theorem sim_canT {f : Ts} : SimT N W (canT N W f) f := fun M s _ _ _ r g => ⟨M, s, r, g⟩
theorem sim_canG {f : Tg} {ts : List Nat} : SimG N W (canG N W f ts) f ts := fun M s _ _ _ d _ r rd g => ⟨M, s, d, r, rd, g⟩
theorem sim_canI {f : Is} : SimI N W (canI N W f) f := fun M s _ _ _ r g => ⟨M, s, r, g⟩
/-- the tests of a comprehension -/
def STs (N : En) (W : WX) (X : Cx) (ifs : List Expr) (f : Ts) : Prop := PTs X ifs (canT N W f)
theorem sts_nil : STs N W X [] Z.tYes := ⟨fun pins s σ H Q I hw => by
  obtain ⟨M, s', r, g⟩ := hw
  exact pts_nil.run pins s σ H Q I (g.here r)⟩
theorem sts_one {c : Expr} {f : Ts} (h : ST N W X c f) : STs N W X [c] f := pts_one h.can
theorem sub_wipe {ts vs : List Nat} (h : ts.all (fun i => vs.contains i) = true) (σ σ' : St) (w : wipe σ' ts = wipe σ ts) : wipe σ' vs = wipe σ vs := by
  have key : ∀ (vs : List Nat) (i : Nat) (τ : St), i ∈ vs → wipe (τ.set i none) vs = wipe τ vs := fun vs i τ hi => wipe_set hi
  have h2 : ∀ (ts : List Nat) (τ : St), (∀ i ∈ ts, i ∈ vs) → wipe (wipe τ ts) vs = wipe τ vs := by
    intro ts
    induction ts with
    | nil => intro τ _; rfl
    | cons i ts ih =>
      intro τ hh
      rw [wipe, key vs i _ (hh i List.mem_cons_self)]
      exact ih τ fun j hj => hh j (List.mem_cons_of_mem _ hj)
  have hm : ∀ i ∈ ts, i ∈ vs := fun i hi => by
    have := List.all_eq_true.mp h i hi
    simpa using this
  rw [← h2 ts σ' hm, w, h2 ts σ hm]
theorem sf_lc {ifs : List Expr} {scope : Scope} {own : List (Str × Nat)} {pos : Pos} {fi : Is} {fg : Tg} {ft : Ts} {fe : Ex} {ts : List Nat} (hc : X.calm = true) (hN : X.N.Nodup) (hi : SI N W X tg iter fi) (ok : BlkOk X.N X.env.scope scope own)
    (hg : ∀ (s : Shared) (H : Hp) (C : Addr) (cl : List (Str × Addr)) (fp : List Addr), SG N WF (X.blk s H scope (compEnvC scope cl C X.env) fp) tg fg ts) (ht : ∀ (s : Shared) (H : Hp) (C : Addr) (cl : List (Str × Addr)) (fp : List Addr), STs N WF (X.blk s H scope (compEnvC scope cl C X.env) fp) ifs ft)
    (he : ∀ (s : Shared) (H : Hp) (C : Addr) (cl : List (Str × Addr)) (fp : List Addr), SE N WF (X.blk s H scope (compEnvC scope cl C X.env) fp) elt fe) (hsub : ts.all (fun i => (own.map (·.2)).contains i) = true := by rfl) (hs : ∀ x, foldedSetIterable iter X.env x = pure x := by intro _; rfl) :
    SF N W X (.ListComp elt [⟨tg, iter, ifs, 0⟩] scope pos) (aLc (own.map (·.2)) fi fg ft fe) := by
  obtain ⟨ti, pi, si⟩ := hi
  exact ⟨_, pe_lc hc hN pi ok (fun s H C cl fp => (hg s H C cl fp).can) (fun s H C cl fp => ht s H C cl fp) (fun s H C cl fp => (he s H C cl fp).can) hs, sim_lc (sub_wipe hsub) si sim_canG sim_canT sim_canE⟩
/-- name = [..]: the list a datum -/
theorem ss_setLc {i : Nat} {y : Str} {py : Pos} {ifs : List Expr} {scope : Scope} {own : List (Str × Nat)} {pos spos : Pos} {fi : Is} {fg : Tg} {ft : Ts} {fe : Ex} {ts : List Nat} (hc : X.calm = true) (hN : X.N.Nodup) (hy : X.N[i]? = some y) (hyl : X.env.scope.names.lookup y = some .local)
    (hsw : swapsWith (.ListComp elt [⟨tg, iter, ifs, 0⟩] scope pos) (some (.Name y py)) spos.line X.env = pure true) (hi : SI N W X tg iter fi) (ok : BlkOk X.N X.env.scope scope own)
    (hg : ∀ (s : Shared) (H : Hp) (C : Addr) (cl : List (Str × Addr)) (fp : List Addr), SG N WF (X.blk s H scope (compEnvC scope cl C X.env) fp) tg fg ts) (ht : ∀ (s : Shared) (H : Hp) (C : Addr) (cl : List (Str × Addr)) (fp : List Addr), STs N WF (X.blk s H scope (compEnvC scope cl C X.env) fp) ifs ft)
    (he : ∀ (s : Shared) (H : Hp) (C : Addr) (cl : List (Str × Addr)) (fp : List Addr), SE N WF (X.blk s H scope (compEnvC scope cl C X.env) fp) elt fe) (hsub : ts.all (fun i => (own.map (·.2)).contains i) = true := by rfl) (hs : ∀ x, foldedSetIterable iter X.env x = pure x := by intro _; rfl) :
    SS N W X (.Assign [.Name y py] (.ListComp elt [⟨tg, iter, ifs, 0⟩] scope pos) spos) (sSet i (eF (aLc (own.map (·.2)) fi fg ft fe))) := by
  obtain ⟨ti, pi, si⟩ := hi
  refine ⟨_, ps_setLc hc hN hy hyl hsw pi ok (fun s H C cl fp => (hg s H C cl fp).can) (fun s H C cl fp => ht s H C cl fp) (fun s H C cl fp => (he s H C cl fp).can) hs, fun M s σ H D rl q => ?_⟩
  refine sim_lc (sub_wipe hsub) si sim_canG sim_canT sim_canE M s σ H _ rl ?_
  unfold sSet eF at q
  generalize aLc (own.map (·.2)) fi fg ft fe s = r at q ⊢
  cases r with
  | stuck => exact q.elim
  | exc c d s1 => exact q
  | ok ds s1 =>
    refine fun M1 H1 e1 r1 p xs f m hp h1 => ?_
    exact q _ _ _ (e1.ownW f) ((r1.ownW m (by intro n z; cases z)).set (.lst own1_same hp ((ext0_own m).ra h1)))
/-- .. ours -/
theorem ss_ownLc {i : Nat} {y : Str} {py : Pos} {ifs : List Expr} {scope : Scope} {own : List (Str × Nat)} {pos spos : Pos} {fi : Is} {fg : Tg} {ft : Ts} {fe : Ex} {ts : List Nat} (hc : X.calm = true) (hN : X.N.Nodup) (hy : X.N[i]? = some y) (hyl : X.env.scope.names.lookup y = some .local)
    (hsw : swapsWith (.ListComp elt [⟨tg, iter, ifs, 0⟩] scope pos) (some (.Name y py)) spos.line X.env = pure true) (hi : SI N W X tg iter fi) (ok : BlkOk X.N X.env.scope scope own)
    (hg : ∀ (s : Shared) (H : Hp) (C : Addr) (cl : List (Str × Addr)) (fp : List Addr), SG N WF (X.blk s H scope (compEnvC scope cl C X.env) fp) tg fg ts) (ht : ∀ (s : Shared) (H : Hp) (C : Addr) (cl : List (Str × Addr)) (fp : List Addr), STs N WF (X.blk s H scope (compEnvC scope cl C X.env) fp) ifs ft)
    (he : ∀ (s : Shared) (H : Hp) (C : Addr) (cl : List (Str × Addr)) (fp : List Addr), SE N WF (X.blk s H scope (compEnvC scope cl C X.env) fp) elt fe) (hsub : ts.all (fun i => (own.map (·.2)).contains i) = true := by rfl) (hs : ∀ x, foldedSetIterable iter X.env x = pure x := by intro _; rfl) :
    SS N W X (.Assign [.Name y py] (.ListComp elt [⟨tg, iter, ifs, 0⟩] scope pos) spos) (sOwn i (aLc (own.map (·.2)) fi fg ft fe)) := by
  obtain ⟨ti, pi, si⟩ := hi
  refine ⟨_, ps_setLc hc hN hy hyl hsw pi ok (fun s H C cl fp => (hg s H C cl fp).can) (fun s H C cl fp => ht s H C cl fp) (fun s H C cl fp => (he s H C cl fp).can) hs, fun M s σ H D rl q => ?_⟩
  refine sim_lc (sub_wipe hsub) si sim_canG sim_canT sim_canE M s σ H _ rl ?_
  unfold sOwn at q
  generalize aLc (own.map (·.2)) fi fg ft fe s = r at q ⊢
  cases r with
  | stuck => exact q.elim
  | exc c d s1 => exact q
  | ok ds s1 =>
    refine fun M1 H1 e1 r1 p xs f m hp h1 => ?_
    exact q _ _ _ (e1.ownW f) (r1.setOwn m hp h1)
/-! ### all(..), any(..) of a generator expression -/
theorem sim_gen {P : Addr} {wi : TI} {fi : Is} {g : TG} {fg : Tg} {ts vs : List Nat} {te : TE} {fe : Ex} {brk : Bool} (hP : P ∈ N.G) (hsub : ∀ σ σ' : St, wipe σ' ts = wipe σ ts → wipe σ' vs = wipe σ vs) (hi : SimI N W wi fi) (hg : SimG N WF g fg ts) (he : SimE N WF te fe) :
    SimE N W (GXX.tGen P wi g te vs brk) (eGen brk vs fi fg fe) := fun M s σ H Q rl q => by
  refine hi M s σ H _ rl ((GoodE.bind q).imp fun M1 H1 ds s1 e1 r1 q1 J st => ⟨r1.tabs P hP, fun H2 tb => ?_⟩)
  have k2 : Same H1 H2 := Same.tabbed (r1.tabs P hP) tb
  have e0 := r1.toRelC.ext k2
  refine ⟨fun i m H => i + m = ds.length ∧ ∃ M s τ, Ext M1 H1 M H ∧ Rel N M s τ H ∧ wipe τ vs = wipe σ vs ∧
        GoodS N WF M1 H1 (genL brk vs fg fe (ds.drop i) s) (fun M' H' τ b s2 => Ext M1 H1 M' H' → Rel N M' s2 τ H' → wipe τ vs = wipe σ vs → Q (.bl b) H'), ⟨ds.length, Nat.zero_add _, M1, s1, σ, e0, r1.same k2, rfl, ?_⟩, fun i m H hW => ?_⟩
  · refine (GoodE.nox q1).imp fun M2 H2 τ b s2 e2 r2 q2 e3 r3 w3 => ?_
    have r4 := r3.wipe vs
    rw [w3] at r4
    exact q2.here (r1.unwipe e3 r4) _ (.bl b)
  · obtain ⟨hm, M2, s2, τ, e2, r2, w2, q2⟩ := hW
    obtain ⟨hstop, hgo⟩ := st M2 H _ e2 r2.toRelC i
    cases hdi : ds[i]? with
    | none =>
      have hli : ds.length ≤ i := List.getElem?_eq_none_iff.mp hdi
      refine .inl ⟨hstop hli, ?_⟩
      rw [List.drop_eq_nil_of_le hli] at q2
      exact q2 M2 H τ e2 r2 e2 r2 w2
    | some d =>
      obtain ⟨h1, h2⟩ := hgo d hdi
      have hlt := (List.getElem?_eq_some_iff.mp hdi).1
      rw [drop_get hdi, genL] at q2
      refine .inr ⟨h1, fun H' => (i + 1) + (m - 1) = ds.length ∧ ∃ M s τ, Ext M1 H1 M H' ∧ Rel N M s τ H' ∧ wipe τ vs = wipe σ vs ∧
          GoodS N WF M1 H1 (genL brk vs fg fe (ds.drop (i + 1)) s) (fun M' H' τ b s2 => Ext M1 H1 M' H' → Rel N M' s2 τ H' → wipe τ vs = wipe σ vs → Q (.bl b) H'), fun H' p => ⟨m - 1, by omega, p⟩, fun x H' y => ?_⟩
      obtain ⟨k, hx⟩ := h2 x H' y
      have e3 := r2.toRelC.ext k
      have e13 := e2.trans e3
      have rw2 := (r2.same k).wipe vs
      rw [w2] at rw2
      refine hg M2 (wipeS vs s2) (wipe σ vs) H' x d _ rw2 hx ((GoodS.rebase q2.bind0 e13).imp fun M4 H4 σ4 _ s4 e4 r4 q4 w4 => ?_)
      have w4' : wipe σ4 vs = wipe σ vs := by rw [hsub _ _ w4, wipe_idem]
      refine ⟨w4', ?_⟩
      refine he M4 s4 σ4 H4 _ r4 ((GoodS.rebase q4.bind0 (e13.trans e4)).toE.imp fun M5 H5 y s5 e5 r5 q5 v5 h5 => ?_)
      have e15 := (e13.trans e4).trans e5
      split at q5
      · rename_i b
        cases h5
        refine ⟨b, rfl, fun hb => ?_, fun hb => ?_⟩
        · rw [if_neg hb] at q5
          exact ⟨by omega, M5, s5, σ4, e15, r5, w4', q5⟩
        · rw [if_pos hb] at q5
          exact q5 M5 H5 σ4 e15 r5 e15 r5 w4'
      · exact q5.elim
theorem se_gen {brk : Bool} {scope : Scope} {own : List (Str × Nat)} {p gpos pos : Pos} {c0 P : Addr} {k : Nat} {fi : Is} {fg : Tg} {fe : Ex} {ts : List Nat} (hP : P ∈ N.G) (hcalm : X.calm = true) (hr : Room k X.A) (hgl : Gl X (if brk then "any" else "all")) (hm : X.mg (if brk then "any" else "all") = none)
    (TB : TabB X.base X.mg c0 P) (hcode : X.env.code = .ref c0) (hN : X.N.Nodup) (hi : SI N W X tg iter fi) (ok : BlkOk X.N X.env.scope scope own)
    (noc : ∀ y ∈ scope.names, y.2 ≠ .cell) (hdot : scope.names.lookup (".0" : Str) = some NameKind.local) (hco : scope.isCoroutine = false)
    (hg : ∀ (s : Shared) (H : Hp) (cl : List (Str × Addr)) (C : Addr) (code : Value) (it : Addr) (fp : List Addr), SG N WF (GXX.genCx X s H scope cl C code (GXX.genCode elt tg iter scope gpos it) fp) tg fg ts)
    (he : ∀ (s : Shared) (H : Hp) (cl : List (Str × Addr)) (C : Addr) (code : Value) (it : Addr) (fp : List Addr), SE N WF (GXX.genCx X s H scope cl C code (GXX.genCode elt tg iter scope gpos it) fp) elt fe)
    (hsub : ts.all (fun i => (own.map (·.2)).contains i) = true := by rfl)
    (hs : ∀ v, genFold iter X.env v = pure v := by intro _; rfl)
    (he0 : starEach [.GeneratorExp elt [⟨tg, iter, [], 0⟩] scope gpos] X.env = (false, eval (.GeneratorExp elt [⟨tg, iter, [], 0⟩] scope gpos) X.env) :: starEach [] X.env := by rfl) :
    SE N W X (.Call (.Name (if brk then "any" else "all") p) [.GeneratorExp elt [⟨tg, iter, [], 0⟩] scope gpos] [] pos) (eGen brk (own.map (·.2)) fi fg fe) := by
  obtain ⟨ti, pi, si⟩ := hi
  cases brk with
  | false => exact ⟨_, GXX.pe_genAll hcalm hr hgl hm TB hcode hN pi ok noc hdot hco (fun s H cl C code it fp => (hg s H cl C code it fp).can) (fun s H cl C code it fp => (he s H cl C code it fp).can) hs he0, sim_gen hP (sub_wipe hsub) si sim_canG sim_canE⟩
  | true => exact ⟨_, GXX.pe_genAny hcalm hr hgl hm TB hcode hN pi ok noc hdot hco (fun s H cl C code it fp => (hg s H cl C code it fp).can) (fun s H cl C code it fp => (he s H cl C code it fp).can) hs he0, sim_gen hP (sub_wipe hsub) si sim_canG sim_canE⟩
end
end Z
/-! ## defs and their calls -/
namespace Z
open PySem PySem.Spec L2 GxR
open PyProof.Rows hiding St
abbrev Fn := List D → List Cell → Res D
def MM.call (M : MM) : MM := fun a => match M a with
  | some (.slot _) => some .far
  | x => x
/-- behind a call: whose things are -/
def MM.back (M M' : MM) : MM := fun a => match M a with
  | some (.slot i) => some (.slot i)
  | _ => match M' a with
    | some (.slot _) => some .far
    | x => x
def GoodF (N : En) (M : MM) (H : Hp) (r : Res D) (Q : VK) (E : XK) : Prop := match r with
  | .ok d s => ∀ M' H' v, Ext M H M' H' → RelC N M' s.cs H' → R N.K M' H' v d → Q v H'
  | .exc c d s => ∀ M' H' C fld dx v, Ext M H M' H' → RelC N M' s.cs H' → N.CT c = some (C, fld) → XD H' dx fld v → R N.K M' H' v d → E (.ref C) (some dx) H'
  | .stuck => False
def spOf (N : En) (n : Nat) (F : Fn) : Sp := fun vs H Q E => ∃ M ds cs, RelC N M cs H ∧ RA N.K M H vs ds ∧ ds.length = n ∧ GoodF N M H (F ds cs) Q E
def eCall (F : Fn) (fs : As) : Ex := fun s => (fs s).bind fun ds s1 => match F ds s1.cs with
  | .ok d s2 => .ok d ⟨s1.ρ, s2.cs⟩
  | .exc c d s2 => .exc c d ⟨s1.ρ, s2.cs⟩
  | .stuck => .stuck
/-- .. that lets no error out -/
def fnS0 (n : Nat) (b : Ss) : Fn := fun ds cs => match b ⟨ds.map .sv ++ List.replicate (n - ds.length) .un, cs⟩ with
  | .ok (.rt d) s => .ok d ⟨[], s.cs⟩
  | .ok .nx s => .ok .non ⟨[], s.cs⟩
  | _ => .stuck
/-- a def's body, its names in n slots, the first ones its parameters -/
def fnS (n : Nat) (b : Ss) : Fn := fun ds cs => match b ⟨ds.map .sv ++ List.replicate (n - ds.length) .un, cs⟩ with
  | .ok (.rt d) s => .ok d ⟨[], s.cs⟩
  | .ok .nx s => .ok .non ⟨[], s.cs⟩
  | .exc c d s => .exc c d ⟨[], s.cs⟩
  | .stuck => .stuck
section
variable {N : En} {W : WX} {X : Cx} {M M' : MM} {H H' : Hp} {cs cs' : List Cell} {s : S} {σ : St}
theorem call_cell {a : Addr} {n : Nat} : M.call a = some (.cell n) ↔ M a = some (.cell n) := by
  unfold MM.call
  split
  · rename_i i h
    rw [h]
    simp
  · exact Iff.rfl
theorem call_none {a : Addr} : M.call a = none ↔ M a = none := by
  unfold MM.call
  split
  · rename_i i h
    rw [h]
    simp
  · exact Iff.rfl
theorem ext0_call : Ext0 M H M.call H := ⟨fun _ _ h m _ => ⟨h, call_none.mpr m⟩, fun _ _ h => call_cell.mpr h⟩
theorem RelC.call (r : RelC N M cs H) : RelC N M.call cs H where
  cell := fun n c h => by
    obtain ⟨a, m, q⟩ := r.cell n c h
    exact ⟨a, call_cell.mpr m, q.ext ext0_call rfl⟩
  uniq := fun a b n h1 h2 => r.uniq a b n (call_cell.mp h1) (call_cell.mp h2)
  csz := fun a n h => r.csz a n (call_cell.mp h)
  mdom := fun a w h => by
    cases m : M a with
    | none => rw [call_none.mpr m] at h; cases h
    | some u => exact r.mdom a u m
  tabs := r.tabs
theorem back_ext (e : Ext M.call H M' H') : Ext M H (M.back M') H' where
  keep := fun a o h m n => by
    obtain ⟨k1, k2⟩ := e.keep a o h (call_none.mpr m) n
    refine ⟨k1, ?_⟩
    unfold MM.back
    rw [m]
    dsimp only
    rw [k2]
  cell := fun a n m => by
    have k := e.cell a n (call_cell.mpr m)
    unfold MM.back
    rw [m]
    dsimp only
    rw [k]
  tab := e.tab
  far := fun a m => by
    have m2 : M.call a = some .far := by
      unfold MM.call
      rw [m]
    obtain ⟨k1, k2⟩ := e.far a m2
    refine ⟨?_, k2⟩
    unfold MM.back
    rw [m]
    dsimp only
    rw [k1]
  dom := e.dom
theorem back_slot {a : Addr} {i : Nat} (m : M a = some (.slot i)) : M.back M' a = some (.slot i) := by
  unfold MM.back
  rw [m]
theorem call_slot {a : Addr} {i : Nat} (m : M a = some (.slot i)) : M.call a = some .far := by
  unfold MM.call
  rw [m]
theorem back_none (e : Ext M.call H M' H') {a : Addr} (m : M' a = none) : M.back M' a = none := by
  unfold MM.back
  split
  · rename_i i h
    obtain ⟨k, _⟩ := e.far a (call_slot h)
    rw [m] at k
    cases k
  · rw [m]
theorem back_cell (e : Ext M.call H M' H') {a : Addr} {n : Nat} (m : M' a = some (.cell n)) : M.back M' a = some (.cell n) := by
  unfold MM.back
  split
  · rename_i i h
    obtain ⟨k, _⟩ := e.far a (call_slot h)
    rw [m] at k
    cases k
  · rw [m]
theorem of_back_cell {a : Addr} {n : Nat} (m : M.back M' a = some (.cell n)) : M' a = some (.cell n) := by
  unfold MM.back at m
  split at m
  · cases m
  · split at m
    · cases m
    · exact m
theorem ext0_back (e : Ext M.call H M' H') : Ext0 M' H' (M.back M') H' := ⟨fun _ _ h m _ => ⟨h, back_none e m⟩, fun _ _ m => back_cell e m⟩
theorem RelC.back (r0 : RelC N M cs H) (e : Ext M.call H M' H') (r : RelC N M' cs' H') : RelC N (M.back M') cs' H' where
  cell := fun n c h => by
    obtain ⟨a, m, q⟩ := r.cell n c h
    exact ⟨a, back_cell e m, q.ext (ext0_back e) rfl⟩
  uniq := fun a b n h1 h2 => r.uniq a b n (of_back_cell h1) (of_back_cell h2)
  csz := fun a n h => r.csz a n (of_back_cell h)
  mdom := fun a w h => by
    cases m : M' a with
    | some u => exact r.mdom a u m
    | none => rw [back_none e m] at h; cases h
  tabs := r.tabs
theorem Rel.back (r0 : Rel N M s σ H) (e : Ext M.call H M' H') (r : RelC N M' cs' H') : Rel N (M.back M') ⟨s.ρ, cs'⟩ σ H' where
  toRelC := r0.toRelC.back e r
  len := r0.len
  sv := fun i d h => by
    obtain ⟨v, k1, k2⟩ := r0.sv i d h
    exact ⟨v, k1, (back_ext e).r k2⟩
  own := fun i l h => by
    obtain ⟨a, xs, k1, m, k2, k3⟩ := r0.own i l h
    exact ⟨a, xs, k1, back_slot m, by rw [(e.far a (call_slot m)).2]; exact k2, (back_ext e).ra k3⟩
/-- f(..), f a def of the program -/
theorem se_call {CX : CXT} {k n : Nat} {f : Addr} {fd : FuncData} {ps : List Str} {F : Fn} {x : Str} {p pos : Pos} {e : Expr} {es : List Expr} {fs : As} (G : FnOk X.prog X.w X.K X.mg X.base CX k f fd ps (spOf N n F)) (hr : Room k X.A) (hg : Gl X x) (hm : X.mg x = some (.ref f)) (hk : PySem.W.keepIn X.K (.ref f) = true) (hb : Binds X.K fd ps [])
    (hx : ∀ σ, PassesAt CX X σ (WE W σ)) (ha : SA N W X (e :: es) fs) (hn : (e :: es).length = n := by rfl) (hdb : (x == ("__debug__" : Str)) = false := by decide) (he : starEach (e :: es) X.env = (false, eval e X.env) :: starEach es X.env := by rfl) (hpl : (backTo pos (starEach es X.env)).any (·.1) = false := by rfl) :
    SE N W X (.Call (.Name x p) (e :: es) [] pos) (eCall F fs) := by
  obtain ⟨t, pt, st, hl⟩ := ha
  refine ⟨_, pe_callS G hr hg hm hk hb hx pt hdb he hpl, fun M s σ H Q rl q => sa_run (es := e :: es) st hl rl q fun M1 H1 ds s1 vs e1 r1 q1 h1 h2 => ?_⟩
  refine ⟨M1.call, ds, s1.cs, r1.toRelC.call, ext0_call.ra h1, h2.trans hn, ?_⟩
  cases hF : F ds s1.cs with
  | stuck => rw [hF] at q1; exact q1.elim
  | ok d s2 =>
    rw [hF] at q1
    exact fun M' H' v e2 r2 h3 => q1 _ _ (back_ext e2) (r1.back e2 r2) v ((ext0_back e2).r h3)
  | exc c d s2 =>
    rw [hF] at q1
    exact fun M' H' C fld dx v e2 r2 hc hX h3 => q1 _ _ σ C fld dx v (back_ext e2) (r1.back e2 r2) hc hX ((ext0_back e2).r h3)
theorem px0 : ∀ σ, PassesAt L2.CX0 X σ (WE W σ) := fun _ _ _ _ _ _ _ h => False.elim h
theorem GoodF.rebase {r : Res D} {Q : VK} {E : XK} (h : GoodF N M H r Q E) (e : Ext M H M' H') : GoodF N M' H' r Q E := by
  cases r with
  | ok d s => exact fun M2 H2 v e2 => h M2 H2 v (e.trans e2)
  | exc c d s => exact fun M2 H2 C fld dx v e2 => h M2 H2 C fld dx v (e.trans e2)
  | stuck => exact h
theorem start_rel {ds : List D} {vs : List V} {Ns : List Str} (r : RelC N M cs H) (h : RA N.K M H vs ds) (hn : Ns.length - ds.length = Ns.length - vs.length := by rfl) : Rel N M ⟨ds.map .sv ++ List.replicate (Ns.length - ds.length) .un, cs⟩ (L2.start Ns vs) H where
  toRelC := r
  len := by
    unfold L2.start
    simp only [List.length_append, List.length_map, List.length_replicate]
    rw [h.length]
  sv := fun i d hi => by
    unfold L2.start
    by_cases hlt : i < ds.length
    · rw [List.getElem?_append_left (by rw [List.length_map]; exact hlt), List.getElem?_map] at hi
      obtain ⟨d', h1, h2⟩ := Option.map_eq_some_iff.mp hi
      cases h2
      obtain ⟨v, k1, k2⟩ := h.get h1
      refine ⟨v, ?_, k2⟩
      rw [List.getElem?_append_left (by rw [List.length_map, h.length]; exact hlt), List.getElem?_map, k1]
      rfl
    · rw [List.getElem?_append_right (by rw [List.length_map]; omega)] at hi
      rw [List.getElem?_replicate] at hi
      split at hi
      · cases hi
      · cases hi
  own := fun i l hi => by
    by_cases hlt : i < ds.length
    · rw [List.getElem?_append_left (by rw [List.length_map]; exact hlt), List.getElem?_map] at hi
      obtain ⟨d', h1, h2⟩ := Option.map_eq_some_iff.mp hi
      cases h2
    · rw [List.getElem?_append_right (by rw [List.length_map]; omega)] at hi
      rw [List.getElem?_replicate] at hi
      split at hi
      · cases hi
      · cases hi
/-- what a body promises -/
theorem body_ok {b : Ss} {st : List Stmt} {Ns ps : List Str} {vs : List V} {Q : VK} {E : XK} (hb : SSs N (fun cls d _ H => E cls d H) X st b) (h : spOf N ps.length (fnS Ns.length b) vs H Q E) : ∃ t, PSs X st t ∧ t { nx := fun _ H' => Q .non H', rt := Q } (L2.start Ns vs) H := by
  obtain ⟨t, pt, sim⟩ := hb
  obtain ⟨M, ds, cs, rc, ha, hl, g⟩ := h
  refine ⟨t, pt, sim M _ _ H _ (start_rel rc ha (by rw [ha.length])) ?_⟩
  unfold fnS at g
  cases hF : b ⟨ds.map .sv ++ List.replicate (Ns.length - ds.length) .un, cs⟩ with
  | stuck => rw [hF] at g; exact g.elim
  | exc c d s =>
    rw [hF] at g
    exact fun M' H' σ' C fld dx v e r hc hX hR => g M' H' C fld dx v e r.toRelC hc hX hR
  | ok fl s =>
    rw [hF] at g
    cases fl with
    | nx => exact fun M' H' σ' e r => g M' H' .non e r.toRelC .non
    | rt d => exact fun M' H' σ' e r v hv => g M' H' v e r.toRelC hv
theorem sp_len {ps : List Str} {F : Fn} : ∀ vs H Q E, spOf N ps.length F vs H Q E → vs.length = ps.length := fun vs H Q E h => by
  obtain ⟨M, ds, cs, rc, ha, hl, g⟩ := h
  rw [ha.length, hl]
theorem body_ok0 {b : Ss} {st : List Stmt} {Ns ps : List Str} {vs : List V} {Q : VK} {E : XK} (hb : SSs N WF X st b) (h : spOf N ps.length (fnS0 Ns.length b) vs H Q E) : ∃ t, PSs X st t ∧ t { nx := fun _ H' => Q .non H', rt := Q } (L2.start Ns vs) H := by
  obtain ⟨t, pt, sim⟩ := hb
  obtain ⟨M, ds, cs, rc, ha, hl, g⟩ := h
  refine ⟨t, pt, sim M _ _ H _ (start_rel rc ha (by rw [ha.length])) ?_⟩
  unfold fnS0 at g
  cases hF : b ⟨ds.map .sv ++ List.replicate (Ns.length - ds.length) .un, cs⟩ with
  | stuck => rw [hF] at g; exact g.elim
  | exc c d s => rw [hF] at g; exact g.elim
  | ok fl s =>
    rw [hF] at g
    cases fl with
    | nx => exact fun M' H' σ' e r => g M' H' .non e r.toRelC .non
    | rt d => exact fun M' H' σ' e r v hv => g M' H' v e r.toRelC hv
end
section
variable {N : En} {P : Program} {w : World} {mg : Str → Option Value} {base : Heap}
/-- a def that lets nothing out -/
theorem fn_sim {x qual : Str} {st : Stmt} {f : Addr} {fd : FuncData} {Ns ps : List Str} {k : Nat} {b : Ss} (F : Fun N.K x qual st f fd) (Sc : FnScope Ns ps (defScope st))
    (hb : ∀ (cdv : Value) (A : Around) (outer : List Env) (s : Shared) (H : Hp) (E : XK), Room k (A.deeper (envOfC qual (defScope st) s.heap.objs.size f cdv)) → SSs N WF (cxOf L2.CX0 P w N.K mg base Ns qual (defScope st) f cdv A outer s H E).nox (defBody st) b) :
    FnOk P w N.K mg base L2.CX0 (k + 1) f fd ps (spOf N ps.length (fnS0 Ns.length b)) :=
  F.ok Sc sp_len fun cdv A outer s H vs Q E hr h => body_ok0 (hb cdv A outer s H E hr) h
theorem fn_simC {x qual : Str} {st : Stmt} {f c : Addr} {fd : FuncData} {Ns ps : List Str} {k : Nat} {b : Ss} (F : GXX.FunC N.K x qual st f fd c) (Sc : FnScope Ns ps (defScope st))
    (hb : ∀ (A : Around) (outer : List Env) (s : Shared) (H : Hp) (E : XK), Room k (A.deeper (envOfC qual (defScope st) s.heap.objs.size f (.ref c))) → SSs N WF (cxOf L2.CX0 P w N.K mg base Ns qual (defScope st) f (.ref c) A outer s H E).nox (defBody st) b) :
    FnOk P w N.K mg base L2.CX0 (k + 1) f fd ps (spOf N ps.length (fnS0 Ns.length b)) :=
  F.ok Sc sp_len fun A outer s H vs Q E hr h => body_ok0 (hb A outer s H E hr) h
/-- a promise that says more of what is computed -/
theorem fn_imp {CX : CXT} {k n : Nat} {f : Addr} {fd : FuncData} {ps : List Str} {F F' : Fn} {K : PySem.W.Frag} (G : FnOk P w K mg base CX k f fd ps (spOf N n F)) (h : ∀ ds cs, F' ds cs ≠ .stuck → ds.length = n → F ds cs = F' ds cs) : FnOk P w K mg base CX k f fd ps (spOf N n F') :=
  G.imp fun vs H Q E q => by
    obtain ⟨M, ds, cs, rc, ha, hl, g⟩ := q
    refine ⟨M, ds, cs, rc, ha, hl, ?_⟩
    rw [h ds cs (fun z => by rw [z] at g; exact g) hl]
    exact g
end
end Z
/-! ## short forms -/
namespace Z
open PySem PySem.Spec L2 GxR
open PyProof.Rows hiding St
section
variable {N : En} {W : WX} {X : Cx} {e a b : Expr} {pos : Pos} {f fa fb : Ex}
theorem se_v (i : Nat) {x : Str} (hN : X.N[i]? = some x := by rfl) (hv : Vis X.env.scope x := by first | exact Or.inl rfl | exact Or.inr (Or.inl rfl) | exact Or.inr (Or.inr rfl)) (hd : (x == ("__debug__" : Str)) = false := by decide)
    (hcd : (x == ("__classdict__" : Str)) = false := by decide) : SE N W X (.Name x pos) (eV i) := ⟨_, pe_var hN hv hd hcd, sim_v i⟩
theorem sb_v (i : Nat) {x : Str} (hN : X.N[i]? = some x := by rfl) (hv : Vis X.env.scope x := by first | exact Or.inl rfl | exact Or.inr (Or.inl rfl) | exact Or.inr (Or.inr rfl)) (hd : (x == ("__debug__" : Str)) = false := by decide)
    (hcd : (x == ("__classdict__" : Str)) = false := by decide) : SB N W X (.Name x pos) (eVB i) := ⟨_, pe_var hN hv hd hcd, sim_vb i⟩
theorem o_add (hK : X.K = N.K) : OpR X (binaryOp .Add) (fun x y H Q => rI0 (fun i j => .int (i + j)) x y H Q ∨ (rCatA N.K x y H Q ∨ rCat x y H Q)) := op_add.or (OpR.or (hK ▸ op_catA) op_cat)
theorem o_mul (hK : X.K = N.K) : OpR X (binaryOp .Mult) (fun x y H Q => rI CMul (fun i j => .int (i * j)) x y H Q ∨ (rRep x y H Q ∨ rRepT N.K x y H Q)) := op_mul.or (op_rep.or (hK ▸ op_repT))
theorem o_eq (hK : X.K = N.K) (hu : X.A.units + 64 < cLine) : OpR X (compareOp .Eq) (rEqD N.K) := hK ▸ op_eqD hu
theorem o_ne (hK : X.K = N.K) (hu : X.A.units + 64 < cLine) : OpR X (compareOp .NotEq) (rNeD N.K) := hK ▸ op_neD hu
theorem o_ix (hK : X.K = N.K) : IxR X (rIx N.K) := hK ▸ ix_seq
theorem se_add (ha : SE N W X a fa) (hb : SB N W X b fb) (hK : X.K = N.K := by rfl) : SE N W X (.BinOp a .Add b pos) (eOp addD fa fb) := se_op (o_add hK) sim_add ha hb
theorem se_addL (i : Nat) (ha : PE X a (tVar i)) (hb : SB N W X b fb) (hK : X.K = N.K := by rfl) : SE N W X (.BinOp a .Add b pos) (eOpL addD i fb) := se_opL (o_add hK) sim_add ha hb
theorem se_sub (ha : SE N W X a fa) (hb : SB N W X b fb) : SE N W X (.BinOp a .Sub b pos) (eOp subD fa fb) := se_op op_sub sim_sub ha hb
theorem se_mul (ha : SE N W X a fa) (hb : SB N W X b fb) (hK : X.K = N.K := by rfl) : SE N W X (.BinOp a .Mult b pos) (eOp mulD fa fb) := se_op (o_mul hK) sim_mul ha hb
theorem se_mod (ha : SE N W X a fa) (hb : SB N W X b fb) : SE N W X (.BinOp a .Mod b pos) (eOp modD fa fb) := se_op op_mod sim_mod ha hb
theorem se_fdiv (ha : SE N W X a fa) (hb : SB N W X b fb) : SE N W X (.BinOp a .FloorDiv b pos) (eOp fdivD fa fb) := se_op op_fdiv sim_fdiv ha hb
theorem se_pow (ha : SE N W X a fa) (hb : SB N W X b fb) : SE N W X (.BinOp a .Pow b pos) (eOp powD fa fb) := se_op op_pow sim_pow ha hb
theorem se_eq (hu : X.A.units + 64 < cLine) (ha : SE N W X a fa) (hb : SB N W X b fb) (hK : X.K = N.K := by rfl) : SE N W X (.Compare a [.Eq] [b] pos) (eOp eqOp fa fb) := se_cmp (o_eq hK hu) sim_eq ha hb (nomark b)
theorem se_eqL (i : Nat) (hu : X.A.units + 64 < cLine) (ha : PE X a (tVar i)) (hb : SB N W X b fb) (hK : X.K = N.K := by rfl) : SE N W X (.Compare a [.Eq] [b] pos) (eOpL eqOp i fb) := se_cmpL (o_eq hK hu) sim_eq ha hb (nomark b)
theorem se_ne (hu : X.A.units + 64 < cLine) (ha : SE N W X a fa) (hb : SB N W X b fb) (hK : X.K = N.K := by rfl) : SE N W X (.Compare a [.NotEq] [b] pos) (eOp neOp fa fb) := se_cmp (o_ne hK hu) sim_ne ha hb (nomark b)
theorem se_neL (i : Nat) (hu : X.A.units + 64 < cLine) (ha : PE X a (tVar i)) (hb : SB N W X b fb) (hK : X.K = N.K := by rfl) : SE N W X (.Compare a [.NotEq] [b] pos) (eOpL neOp i fb) := se_cmpL (o_ne hK hu) sim_ne ha hb (nomark b)
theorem se_lt (ha : SE N W X a fa) (hb : SB N W X b fb) : SE N W X (.Compare a [.Lt] [b] pos) (eOp ltD fa fb) := se_cmp op_lt sim_lt ha hb (nomark b)
theorem se_le (ha : SE N W X a fa) (hb : SB N W X b fb) : SE N W X (.Compare a [.LtE] [b] pos) (eOp leD fa fb) := se_cmp op_le sim_le ha hb (nomark b)
theorem se_gt (ha : SE N W X a fa) (hb : SB N W X b fb) : SE N W X (.Compare a [.Gt] [b] pos) (eOp gtD fa fb) := se_cmp op_gt sim_gt ha hb (nomark b)
theorem se_ge (ha : SE N W X a fa) (hb : SB N W X b fb) : SE N W X (.Compare a [.GtE] [b] pos) (eOp geD fa fb) := se_cmp op_ge sim_ge ha hb (nomark b)
theorem se_in (hu : X.A.units + 65 < cLine) (ha : SE N W X a fa) (hb : SB N W X b fb) (hm : behindInMarks .In b = false := by rfl) (hK : X.K = N.K := by rfl) : SE N W X (.Compare a [.In] [b] pos) (eOp inOp fa fb) := se_cmp (op_inA hK hu) sim_in ha hb hm
theorem se_notIn (hu : X.A.units + 65 < cLine) (ha : SE N W X a fa) (hb : SB N W X b fb) (hm : behindInMarks .NotIn b = false := by rfl) (hK : X.K = N.K := by rfl) : SE N W X (.Compare a [.NotIn] [b] pos) (eOp notInOp fa fb) := se_cmp (op_notInA hK hu) sim_notIn ha hb hm
theorem se_isN (ha : SE N W X a fa) (hb : SB N W X b fb) : SE N W X (.Compare a [.Is] [b] pos) (eOp isNOp fa fb) := se_cmp op_isN sim_isN ha hb (nomark b)
theorem se_notN (ha : SE N W X a fa) (hb : SB N W X b fb) : SE N W X (.Compare a [.IsNot] [b] pos) (eOp notNOp fa fb) := se_cmp op_notN sim_notN ha hb (nomark b)
theorem st_eq (hu : X.A.units + 64 < cLine) (ha : SE N W X a fa) (hb : SB N W X b fb) (hK : X.K = N.K := by rfl) : ST N W X (.Compare a [.Eq] [b] pos) (tV (eOp eqOp fa fb)) := st_cmp (o_eq hK hu) sim_eq ha hb (nomark b)
theorem st_eqL (i : Nat) (hu : X.A.units + 64 < cLine) (ha : PE X a (tVar i)) (hb : SB N W X b fb) (hK : X.K = N.K := by rfl) : ST N W X (.Compare a [.Eq] [b] pos) (tV (eOpL eqOp i fb)) := st_cmpL (o_eq hK hu) sim_eq ha hb (nomark b)
theorem st_ne (hu : X.A.units + 64 < cLine) (ha : SE N W X a fa) (hb : SB N W X b fb) (hK : X.K = N.K := by rfl) : ST N W X (.Compare a [.NotEq] [b] pos) (tV (eOp neOp fa fb)) := st_cmp (o_ne hK hu) sim_ne ha hb (nomark b)
theorem st_neL (i : Nat) (hu : X.A.units + 64 < cLine) (ha : PE X a (tVar i)) (hb : SB N W X b fb) (hK : X.K = N.K := by rfl) : ST N W X (.Compare a [.NotEq] [b] pos) (tV (eOpL neOp i fb)) := st_cmpL (o_ne hK hu) sim_ne ha hb (nomark b)
theorem st_lt (ha : SE N W X a fa) (hb : SB N W X b fb) : ST N W X (.Compare a [.Lt] [b] pos) (tV (eOp ltD fa fb)) := st_cmp op_lt sim_lt ha hb (nomark b)
theorem st_le (ha : SE N W X a fa) (hb : SB N W X b fb) : ST N W X (.Compare a [.LtE] [b] pos) (tV (eOp leD fa fb)) := st_cmp op_le sim_le ha hb (nomark b)
theorem st_gt (ha : SE N W X a fa) (hb : SB N W X b fb) : ST N W X (.Compare a [.Gt] [b] pos) (tV (eOp gtD fa fb)) := st_cmp op_gt sim_gt ha hb (nomark b)
theorem st_ge (ha : SE N W X a fa) (hb : SB N W X b fb) : ST N W X (.Compare a [.GtE] [b] pos) (tV (eOp geD fa fb)) := st_cmp op_ge sim_ge ha hb (nomark b)
theorem st_in (hu : X.A.units + 65 < cLine) (ha : SE N W X a fa) (hb : SB N W X b fb) (hm : behindInMarks .In b = false := by rfl) (hK : X.K = N.K := by rfl) : ST N W X (.Compare a [.In] [b] pos) (tV (eOp inOp fa fb)) := st_cmp (op_inA hK hu) sim_in ha hb hm
theorem st_notIn (hu : X.A.units + 65 < cLine) (ha : SE N W X a fa) (hb : SB N W X b fb) (hm : behindInMarks .NotIn b = false := by rfl) (hK : X.K = N.K := by rfl) : ST N W X (.Compare a [.NotIn] [b] pos) (tV (eOp notInOp fa fb)) := st_cmp (op_notInA hK hu) sim_notIn ha hb hm
theorem st_isN (ha : SE N W X a fa) (hb : SB N W X b fb) : ST N W X (.Compare a [.Is] [b] pos) (tV (eOp isNOp fa fb)) := st_cmp op_isN sim_isN ha hb (nomark b)
theorem st_notN (ha : SE N W X a fa) (hb : SB N W X b fb) : ST N W X (.Compare a [.IsNot] [b] pos) (tV (eOp notNOp fa fb)) := st_cmp op_notN sim_notN ha hb (nomark b)
theorem se_at (ha : SE N W X a fa) (hb : SE N W X b fb) (hs : PlainIx b := by exact fun _ _ => rfl) (hK : X.K = N.K := by rfl) : SE N W X (.Subscript a b pos) (eOp ixD fa fb) := se_ix (o_ix hK) sim_ix ha hb.sb hs
theorem se_atL (i : Nat) (ha : PE X a (tVar i)) (hb : SE N W X b fb) (hs : PlainIx b := by exact fun _ _ => rfl) (hK : X.K = N.K := by rfl) : SE N W X (.Subscript a b pos) (eOpL ixD i fb) := se_ixL (o_ix hK) sim_ix ha hb.sb hs
theorem fnok_stuck {P : Program} {w : World} {mg : Str → Option Value} {base : Heap} {CX : CXT} {k n : Nat} {f : Addr} {fd : FuncData} {ps : List Str} {K : PySem.W.Frag} : FnOk P w K mg base CX k f fd ps (spOf N n fun _ _ => .stuck) :=
  ⟨fun vs H Q E h => by
    obtain ⟨_, _, _, _, _, _, z⟩ := h
    exact z.elim, fun A outer s H args us vs Q E _ _ _ _ h => by
    obtain ⟨_, _, _, _, _, _, z⟩ := h
    exact z.elim⟩
/-- the script's own promise -/
def splaw (N : En) : Sp := fun vs H Q _ => ∃ (a : Addr) (ns : List Int), vs = [.ref a] ∧ SqL N.K H a (ns.map V.int) ∧ ns.length ≤ 63 ∧ (∀ P ∈ N.G, TabG H P) ∧ ∀ H', Q (.bl true) H'
theorem law_ok {P : Program} {w : World} {mg : Str → Option Value} {base : Heap} {CX : CXT} {k : Nat} {f : Addr} {fd : FuncData} {ps : List Str} {F : Fn} (G : FnOk P w N.K mg base CX k f fd ps (spOf N 1 F)) (h : ∀ ns : List Int, ns.length ≤ 63 → ∃ s, F [.scr ns] [] = .ok (.bl true) s) :
    FnOk P w N.K mg base CX k f fd ps (splaw N) := G.imp fun vs H Q E q => by
  obtain ⟨a, ns, rfl, hs, hl, ht, hq⟩ := q
  obtain ⟨s, e⟩ := h ns hl
  refine ⟨fun _ => none, [.scr ns], [], ⟨fun n c hc => by simp at hc, fun a b n m => (nomatch m), fun a n m => (nomatch m), fun a w m => (nomatch m), ht⟩, .cons (.scr ?_) .nil, rfl, ?_⟩
  · rcases hs with hs | hs
    · exact .inl ⟨rfl, hs⟩
    · exact .inr (.inr hs)
  · rw [e]
    intro M' H' v _ _ hv
    cases hv
    exact hq H'
end
end Z
/-! ## min and max of two data -/
namespace Z
open PySem PySem.W PySem.Spec PyProof PyProof.Rows
section
variable {prog : Program} {w : World} {A : Around} {E : Value → Shared → Prop} {s : Shared} {a b : Value} {x y : PyData} {as : List Addr} {Q : Value → Shared → Prop}
theorem best_two {f : PyData → PyData → Bool} {v : Value} (h : (#[a, b] : Array Value)[argBest (fun i j => f (([x, y] : List PyData).getD i PyData.none) (([x, y] : List PyData).getD j PyData.none)) (2 - 1)]? = some v) : v = if f y x = true then b else a := by
  have e : argBest (fun i j => f (([x, y] : List PyData).getD i PyData.none) (([x, y] : List PyData).getD j PyData.none)) (2 - 1) = if f y x = true then 1 else 0 := rfl
  rw [e] at h
  cases hf : f y x with
  | true => rw [hf] at h; exact (Option.some.inj h).symm
  | false => rw [hf] at h; exact (Option.some.inj h).symm
theorem min_two_data (hh : A.handled = none) (hr : ReadsAll s.heap [a, b] [x, y] as) (ha : AlikeAll [x, y]) (hu : A.units + 1 + PyData.depthAll [x, y] < cLine)
    (h : ∀ v h' tk, v = (if dataLt y x = true then b else a) → (∀ c o, s.heap.get? c = some o → h'.get? c = some o) → Q v { heap := h', gens := s.gens, drawn := s.drawn, toks := tk, os := s.os }) :
    wpAny (model prog w) A (call (.builtin "min") [a, b]) Q E s := by
  refine call_function_tree F.kind_min F.plain_min F.entry_min (F.args_min2 a b) ?_
  refine (?_ : wpAny _ _ (newTuple [a, b] >>= fun items => pyIter items >>= fun it => newList [] >>= fun l => again (Code.builtin "min.loop" { pos := [it, Value.none, l], kw := [] })) _ _ s)
  refine wpAny_bind (wpAny_newTuple ?_)
  have kp : ∀ c o, s.heap.get? c = some o → (s.heap.push { cls := Value.type "tuple", data := Data.seq #[a, b] }).get? c = some o := fun c o h => Heap.get?_push_of_some _ h
  refine wpAny_bind (iter_tupleW (vs := #[a, b]) hh ⟨_, Heap.get?_push_size _ rfl, rfl, _, rfl⟩ fun s2 hs2 wk st hb hn hk => ?_)
  refine wpAny_bind (wpAny_newList ?_)
  have e2 : s2.gens = s.gens ∧ s2.drawn = s.drawn ∧ s2.os = s.os := by rw [hs2]; exact ⟨rfl, rfl, rfl⟩
  have k3 : ∀ c o, s2.heap.get? c = some o → (s2.heap.push { cls := Value.type "list", data := Data.seq ([] : List Value).toArray }).get? c = some o := fun c o h => Heap.get?_push_of_some _ h
  refine wpAny_pure ⟨plainId_quiet F.plain_min_loop _, ?_⟩
  have hr' : ReadsAll s.heap (#[a, b] : Array Value).toList [x, y] as := hr
  refine codeAny_min_loop_firstH wk s.heap (fun c o h => hn c o (kp c o h)) _ (cmpIn_lt hr' ha (by exact hu)) s2.heap.objs.size (fun z => Nat.lt_irrefl _ (hb _ z)) ?_ [] (Nat.zero_lt_succ _) (fun c o h => k3 c o (hk c o (kp c o h)))
    (wk.frame 0 s2 _ s2.toks st (Nat.le_refl _) fun c _ o h => k3 c o h) (Heap.get?_push_size _ rfl) fun v s' hv hm => ?_
  · cases e : s.heap.get? s2.heap.objs.size with
    | none => rfl
    | some o => exact absurd (Heap.lt_size (hk _ o (kp _ o e))) (Nat.lt_irrefl _)
  · have q := h v s'.heap s'.toks (best_two hv) fun c o hc => hm.heap c o (fun z => ?_) (k3 c o (hk c o (kp c o hc)))
    · have e1 : s'.gens = s.gens := hm.gens.trans e2.1
      have e3 : s'.drawn = s.drawn := hm.drawn.trans e2.2.1
      have e4 : s'.os = s.os := hm.os.trans e2.2.2
      rw [← e1, ← e3, ← e4] at q
      exact q
    · cases z with
      | head => exact absurd (Heap.lt_size (hk _ o (kp _ o hc))) (Nat.lt_irrefl _)
      | tail _ z => exact hn c o (kp c o hc) z
theorem max_two_data (hh : A.handled = none) (hr : ReadsAll s.heap [a, b] [x, y] as) (ha : AlikeAll [x, y]) (hu : A.units + 1 + PyData.depthAll [x, y] < cLine)
    (h : ∀ v h' tk, v = (if dataLt x y = true then b else a) → (∀ c o, s.heap.get? c = some o → h'.get? c = some o) → Q v { heap := h', gens := s.gens, drawn := s.drawn, toks := tk, os := s.os }) :
    wpAny (model prog w) A (call (.builtin "max") [a, b]) Q E s := by
  refine call_function_tree F.kind_max F.plain_max F.entry_max (F.args_max2 a b) ?_
  refine (?_ : wpAny _ _ (newTuple [a, b] >>= fun items => pyIter items >>= fun it => newList [] >>= fun l => again (Code.builtin "max.loop" { pos := [it, Value.none, l], kw := [] })) _ _ s)
  refine wpAny_bind (wpAny_newTuple ?_)
  have kp : ∀ c o, s.heap.get? c = some o → (s.heap.push { cls := Value.type "tuple", data := Data.seq #[a, b] }).get? c = some o := fun c o h => Heap.get?_push_of_some _ h
  refine wpAny_bind (iter_tupleW (vs := #[a, b]) hh ⟨_, Heap.get?_push_size _ rfl, rfl, _, rfl⟩ fun s2 hs2 wk st hb hn hk => ?_)
  refine wpAny_bind (wpAny_newList ?_)
  have e2 : s2.gens = s.gens ∧ s2.drawn = s.drawn ∧ s2.os = s.os := by rw [hs2]; exact ⟨rfl, rfl, rfl⟩
  have k3 : ∀ c o, s2.heap.get? c = some o → (s2.heap.push { cls := Value.type "list", data := Data.seq ([] : List Value).toArray }).get? c = some o := fun c o h => Heap.get?_push_of_some _ h
  refine wpAny_pure ⟨plainId_quiet F.plain_max_loop _, ?_⟩
  have hr' : ReadsAll s.heap (#[a, b] : Array Value).toList [x, y] as := hr
  refine codeAny_max_loop_firstH wk s.heap (fun c o h => hn c o (kp c o h)) _ (cmpIn_gt hr' ha (by exact hu)) s2.heap.objs.size (fun z => Nat.lt_irrefl _ (hb _ z)) ?_ [] (Nat.zero_lt_succ _) (fun c o h => k3 c o (hk c o (kp c o h)))
    (wk.frame 0 s2 _ s2.toks st (Nat.le_refl _) fun c _ o h => k3 c o h) (Heap.get?_push_size _ rfl) fun v s' hv hm => ?_
  · cases e : s.heap.get? s2.heap.objs.size with
    | none => rfl
    | some o => exact absurd (Heap.lt_size (hk _ o (kp _ o e))) (Nat.lt_irrefl _)
  · have q := h v s'.heap s'.toks (best_two (f := fun y x => dataLt x y) hv) fun c o hc => hm.heap c o (fun z => ?_) (k3 c o (hk c o (kp c o hc)))
    · have e1 : s'.gens = s.gens := hm.gens.trans e2.1
      have e3 : s'.drawn = s.drawn := hm.drawn.trans e2.2.1
      have e4 : s'.os = s.os := hm.os.trans e2.2.2
      rw [← e1, ← e3, ← e4] at q
      exact q
    · cases z with
      | head => exact absurd (Heap.lt_size (hk _ o (kp _ o hc))) (Nat.lt_irrefl _)
      | tail _ z => exact hn c o (kp c o hc) z
end
end Z
namespace Z
open PySem PySem.Spec L2 GxR
open PyProof.Rows hiding St
theorem u65 {k : Nat} {A : Around} (h : Room k A) : A.units + 65 < cLine := by have := h.un; omega
theorem u2 {k : Nat} {A : Around} (h : Room k A) : A.units + 2 < cLine := by have := h.un; omega
theorem u70 {k : Nat} {A : Around} (h : Room k A) : A.units + 70 < cLine := by have := h.un; omega
theorem u1 {k : Nat} {A : Around} (h : Room k A) : A.units + 1 < cLine := by have := h.un; omega
def al4 (d e : PyData) : Bool := PySem.W.alike d d && PySem.W.alike d e && PySem.W.alike e d && PySem.W.alike e e && !isNoneD d && !isNoneD e
where isNoneD : PyData → Bool
  | .none => true
  | _ => false
theorem al4_all {d e : PyData} (h : al4 d e = true) : PySem.W.AlikeAll [d, e] := by
  unfold al4 at h
  simp only [Bool.and_eq_true, Bool.not_eq_true'] at h
  obtain ⟨⟨⟨⟨⟨h1, h2⟩, h3⟩, h4⟩, h5⟩, h6⟩ := h
  refine ⟨fun x hx y hy => ?_, fun x hx => ?_⟩
  · simp only [List.mem_cons, List.not_mem_nil, or_false] at hx hy
    rcases hx with rfl | rfl <;> rcases hy with rfl | rfl <;> assumption
  · simp only [List.mem_cons, List.not_mem_nil, or_false] at hx
    rcases hx with rfl | rfl
    · rintro rfl; cases h5
    · rintro rfl; cases h6
def minOp (d e : D) : Option D := if okD 60 d && okD 60 e && al4 d.py e.py then some (if PySem.W.dataLt e.py d.py = true then e else d) else none
def maxOp (d e : D) : Option D := if okD 60 d && okD 60 e && al4 d.py e.py then some (if PySem.W.dataLt d.py e.py = true then e else d) else none
section
variable {N : En} {W : WX} {X : Cx} {K : PySem.W.Frag} {M M' : MM} {H H' : Hp} {s : S} {σ : St} {e a b c : Expr} {f fa fb : Ex} {fs : As} {p p2 pos : Pos} {cs : List Cell}
def rMin2 (K : PySem.W.Frag) : List V → Hp → VK → Prop := fun xs H Q => ∃ x y d e, xs = [x, y] ∧ Dp K H x d ∧ Dp K H y e ∧ al4 d e = true ∧ PyData.depthAll [d, e] ≤ 60 ∧ Q (if PySem.W.dataLt e d = true then y else x) H
def rMax2 (K : PySem.W.Frag) : List V → Hp → VK → Prop := fun xs H Q => ∃ x y d e, xs = [x, y] ∧ Dp K H x d ∧ Dp K H y e ∧ al4 d e = true ∧ PyData.depthAll [d, e] ≤ 60 ∧ Q (if PySem.W.dataLt d e = true then y else x) H
theorem vals2 {x y : V} {us : List Value} (r : Vals [x, y] us) : ∃ u v, us = [u, v] ∧ RelV x u ∧ RelV y v := by
  cases r with
  | cons h t => cases t with
    | cons h2 t2 => cases t2; exact ⟨_, _, rfl, h, h2⟩
theorem cr_min2D (hc : X.calm = true) (hu : X.A.units + 70 < cLine) : CallR X (.builtin "min") (rMin2 X.K) := by
  intro pins s σ H vs us Q I r h
  obtain ⟨x, y, d, e, rfl, hx, hy, ha, hd, q⟩ := h
  obtain ⟨u, v, rfl, r1, r2⟩ := vals2 r
  obtain ⟨as, ra⟩ := Dp.readsAll I [d, e] [x, y] [u, v] (.cons hx (.cons hy .nil)) (.cons r1 (.cons r2 .nil))
  refine min_two_data (I.ok.hd hc) ra (al4_all ha) (by omega) fun z h' tk hz hk => ⟨_, H, I.kept hk, ?_, q⟩
  rw [hz]
  split
  · exact r2
  · exact r1
theorem cr_max2D (hc : X.calm = true) (hu : X.A.units + 70 < cLine) : CallR X (.builtin "max") (rMax2 X.K) := by
  intro pins s σ H vs us Q I r h
  obtain ⟨x, y, d, e, rfl, hx, hy, ha, hd, q⟩ := h
  obtain ⟨u, v, rfl, r1, r2⟩ := vals2 r
  obtain ⟨as, ra⟩ := Dp.readsAll I [d, e] [x, y] [u, v] (.cons hx (.cons hy .nil)) (.cons r1 (.cons r2 .nil))
  refine max_two_data (I.ok.hd hc) ra (al4_all ha) (by omega) fun z h' tk hz hk => ⟨_, H, I.kept hk, ?_, q⟩
  rw [hz]
  split
  · exact r2
  · exact r1
theorem depth2 {d e : D} (h : okD 60 d = true) (h' : okD 60 e = true) : PyData.depthAll [d.py, e.py] ≤ 60 := by
  have h1 := (okD_lay d 60 h).2
  have h2 := (okD_lay e 60 h').2
  simp only [PyData.depthAll]
  omega
theorem se_min2 (hK : X.K = N.K) (hc : X.calm = true) (hu : X.A.units + 70 < cLine) (hg : Gl X "min") (hm : X.mg "min" = none) (ha : SE N W X a fa) (hb : SE N W X b fb) (he : starEach [a, b] X.env = (false, eval a X.env) :: starEach [b] X.env := by rfl) (he2 : starEach [b] X.env = (false, eval b X.env) :: starEach [] X.env := by rfl) :
    SE N W X (.Call (.Name "min" p) [a, b] [] pos) (eOp minOp fa fb) := by
  obtain ⟨ta, pa, sa⟩ := ha
  obtain ⟨tb, pb, sb⟩ := hb
  refine ⟨_, pe_callB (hK ▸ cr_min2D hc hu) hg hm (by decide +kernel) (pa_cons pa (pa_cons pb pa_nil he2) he) (by decide) (by decide) he (by rw [he2]; rfl), fun M s σ H Q rl q => sa M s σ H _ rl (q.bind.imp fun M1 H1 x s1 e1 r1 q1 v1 h1 => sb M1 s1 σ H1 _ r1 (q1.bind.imp fun M2 H2 y s2 e2 r2 q2 v2 h2 => ?_))⟩
  obtain ⟨z, hz, q3⟩ := q2.lift r2
  unfold minOp at hz
  split at hz
  case isFalse => cases hz
  rename_i g
  simp only [Bool.and_eq_true] at g
  obtain ⟨⟨g1, g2⟩, g3⟩ := g
  refine ⟨v1, v2, x.py, y.py, rfl, (e2.r h1).dp _ _ _ g1, h2.dp _ _ _ g2, g3, depth2 g1 g2, q3 _ ?_⟩
  cases hz
  split
  · exact h2
  · exact e2.r h1
theorem se_max2 (hK : X.K = N.K) (hc : X.calm = true) (hu : X.A.units + 70 < cLine) (hg : Gl X "max") (hm : X.mg "max" = none) (ha : SE N W X a fa) (hb : SE N W X b fb) (he : starEach [a, b] X.env = (false, eval a X.env) :: starEach [b] X.env := by rfl) (he2 : starEach [b] X.env = (false, eval b X.env) :: starEach [] X.env := by rfl) :
    SE N W X (.Call (.Name "max" p) [a, b] [] pos) (eOp maxOp fa fb) := by
  obtain ⟨ta, pa, sa⟩ := ha
  obtain ⟨tb, pb, sb⟩ := hb
  refine ⟨_, pe_callB (hK ▸ cr_max2D hc hu) hg hm (by decide +kernel) (pa_cons pa (pa_cons pb pa_nil he2) he) (by decide) (by decide) he (by rw [he2]; rfl), fun M s σ H Q rl q => sa M s σ H _ rl (q.bind.imp fun M1 H1 x s1 e1 r1 q1 v1 h1 => sb M1 s1 σ H1 _ r1 (q1.bind.imp fun M2 H2 y s2 e2 r2 q2 v2 h2 => ?_))⟩
  obtain ⟨z, hz, q3⟩ := q2.lift r2
  unfold maxOp at hz
  split at hz
  case isFalse => cases hz
  rename_i g
  simp only [Bool.and_eq_true] at g
  obtain ⟨⟨g1, g2⟩, g3⟩ := g
  refine ⟨v1, v2, x.py, y.py, rfl, (e2.r h1).dp _ _ _ g1, h2.dp _ _ _ g2, g3, depth2 g1 g2, q3 _ ?_⟩
  cases hz
  split
  · exact h2
  · exact e2.r h1
/-! ### a dict of words, written in the module -/
def look (ps : List (Nat × D)) (k : Nat) : Option D := (ps.find? fun p => p.1 == k).map (·.2)
def kdD (ps : List (Nat × D)) : D → Option D
  | .str k => look ps k
  | _ => none
def KDP (N : En) (w : World) (a : Addr) (ps : List (Nat × D)) : Prop := ∀ q ∈ ps, ∃ v, KDct N.K w a (txt q.1) v ∧ ∀ M H, R N.K M H v q.2
def eKD (ps : List (Nat × D)) (f : Ex) : Ex := eC1 (kdD ps) f
theorem se_kd {a : Addr} {x : Str} {ps : List (Nat × D)} (d : KDP N X.w a ps) (hg : Gl X x) (hm : X.mg x = some (.ref a)) (hb : SE N W X b fb) (hK : X.K = N.K := by rfl) (hs : PlainIx b := by exact fun _ _ => rfl) (hd : (x == ("__debug__" : Str)) = false := by decide) : SE N W X (.Subscript (.Name x p) b pos) (eKD ps fb) := by
  obtain ⟨tb, pb, sb⟩ := hb
  refine ⟨_, pe_ix ix_kdict (pe_glob (v := .ref a) hg hm rfl hd) pb hs, fun M s σ H Q rl q => sb M s σ H _ rl (q.bind.imp fun M1 H1 y s1 e1 r1 q1 v1 h1 => ?_)⟩
  obtain ⟨z, hz, q3⟩ := q1.lift r1
  cases y with
  | str n =>
    cases h1
    simp only [kdD, look] at hz
    obtain ⟨q, hq, rfl⟩ := Option.map_eq_some_iff.mp hz
    have hq1 := List.find?_some hq
    obtain ⟨v, k1, k2⟩ := d q (List.mem_of_find?_eq_some hq)
    have e : q.1 = n := by simpa using hq1
    rw [e] at k1
    exact ⟨a, _, v, rfl, rfl, hK ▸ k1, q3 _ (k2 _ _)⟩
  | _ => cases hz
def addI : D → D → Option D
  | .int i, .int j => some (.int (i + j))
  | _, _ => none
theorem sim_addI : OpSim N (rI0 fun i j => .int (i + j)) addI := by
  intro M H cs x y d e z Q rc hx hy hg q
  cases d <;> cases e <;> simp only [addI] at hg <;> try cases hg
  exact ⟨_, _, hx.int, hy.int, q H _ (Same.refl H) (.int _)⟩
/-- not x, x of any kind -/
def eNotT (t : Ts) : Ex := fun s => (t s).bind fun b s1 => .ok (.bl (!b)) s1
end
end Z
/-! ## {..}[word] -/
namespace Z
open PySem PySem.Spec L2 GxR
open PyProof.Rows hiding St
section
variable {N : En} {W : WX} {X : Cx} {K : PySem.W.Frag} {M M' : MM} {H H' : Hp} {s : S} {σ : St} {e a b c : Expr} {f fa fb : Ex} {fs : As} {p p2 pos : Pos} {cs : List Cell}
/-- our new object is written -/
theorem Rel.updFO (r : Rel N M s σ H) {p : Addr} {o : HO} (h : M p = some .far) (ho : ∀ ps, o ≠ .tbl ps) : Rel N M s σ (upd H p o) where
  cell := fun n c h1 => by
    obtain ⟨a, m, q⟩ := r.cell n c h1
    refine ⟨a, m, q.ext (ext0_upd h) (upd_ne ?_)⟩
    rintro rfl
    rw [h] at m
    cases m
  uniq := r.uniq
  csz := r.csz
  mdom := fun a u h1 => by
    by_cases ha : a = p
    · subst ha
      exact ⟨_, upd_same, ho⟩
    · obtain ⟨o, k1, k2⟩ := r.mdom a u h1
      exact ⟨o, by rw [upd_ne ha]; exact k1, k2⟩
  tabs := fun P hP => by
    obtain ⟨u, hu, n⟩ := r.mdom p _ h
    exact tab_upd hu n (r.tabs P hP)
  len := r.len
  sv := fun i d h1 => by
    obtain ⟨v, k1, k2⟩ := r.sv i d h1
    exact ⟨v, k1, (ext0_upd h).r k2⟩
  own := fun i l h1 => by
    obtain ⟨a, ys, k1, m, k2, k3⟩ := r.own i l h1
    refine ⟨a, ys, k1, m, ?_, (ext0_upd h).ra k3⟩
    rw [upd_ne]
    · exact k2
    · rintro rfl
      rw [h] at m; cases m
theorem Ext.updFO (e : Ext M H M' H') {p : Addr} {o : HO} (f : Fresh M H p) (ho : ∀ ps, o ≠ .tbl ps) (m : ∃ u, H' p = some u ∧ ∀ ps, u ≠ .tbl ps) : Ext M H M' (upd H' p o) where
  keep := fun a o h1 m1 n => by
    have ne : a ≠ p := fun z => by
      obtain ⟨ps, z2⟩ := f.2 o (z ▸ h1)
      exact n ps z2
    obtain ⟨k1, k2⟩ := e.keep a o h1 m1 n
    exact ⟨by rw [upd_ne ne]; exact k1, k2⟩
  cell := e.cell
  tab := fun b h => by
    obtain ⟨u, hu, n⟩ := m
    exact tab_upd hu n (e.tab b h)
  far := fun a h1 => by
    have ne : a ≠ p := fun z => by rw [z, f.1] at h1; cases h1
    obtain ⟨k1, k2⟩ := e.far a h1
    exact ⟨k1, by rw [upd_ne ne]; exact k2⟩
  dom := fun a o h1 n => by
    obtain ⟨o', k1, k2⟩ := e.dom a o h1 n
    by_cases z : a = p
    · subst z
      exact ⟨_, upd_same, ho⟩
    · exact ⟨o', by rw [upd_ne z]; exact k1, k2⟩
theorem RelC.laidO (r : RelC N M cs H) {p : Addr} {o : HO} (ho : ∀ ps, o ≠ .tbl ps) (h : H p = none) : RelC N (own1 M p (some .far)) cs (upd H p o) ∧ Ext M H (own1 M p (some .far)) (upd H p o) := by
  have mp := r.fresh h
  have e : Ext M H (own1 M p (some .far)) (upd H p o) := ⟨⟨fun a o h1 m _ => by
      have ne : a ≠ p := fun z => by rw [z, h] at h1; cases h1
      exact ⟨by rw [upd_ne ne]; exact h1, by rw [own1_ne ne]; exact m⟩, fun a n m => by
      have ne : a ≠ p := fun z => by rw [z, mp] at m; cases m
      rw [own1_ne ne]
      exact m⟩, (Same.upd h).2, fun a m => by
      have ne : a ≠ p := fun z => by rw [z, mp] at m; cases m
      exact ⟨by rw [own1_ne ne]; exact m, upd_ne ne⟩, fun a o ho n => ⟨o, (Same.upd h).1 a o ho n, n⟩⟩
  refine ⟨⟨fun n c h1 => ?_, fun a b n h1 h2 => ?_, fun a n h1 => ?_, fun a u h1 => ?_, fun P hP => e.tab P (r.tabs P hP)⟩, e⟩
  · obtain ⟨a, m, q⟩ := r.cell n c h1
    have ne : a ≠ p := fun z => by rw [z, mp] at m; cases m
    exact ⟨a, by rw [own1_ne ne]; exact m, q.ext e.toExt0 (upd_ne ne)⟩
  · have ha : a ≠ p := fun z => by rw [z, own1_same] at h1; cases h1
    have hb : b ≠ p := fun z => by rw [z, own1_same] at h2; cases h2
    rw [own1_ne ha] at h1
    rw [own1_ne hb] at h2
    exact r.uniq a b n h1 h2
  · have ha : a ≠ p := fun z => by rw [z, own1_same] at h1; cases h1
    rw [own1_ne ha] at h1
    exact r.csz a n h1
  · by_cases ha : a = p
    · subst ha
      exact ⟨_, upd_same, ho⟩
    · rw [own1_ne ha] at h1
      obtain ⟨o, k1, k2⟩ := r.mdom a u h1
      exact ⟨o, by rw [upd_ne ha]; exact k1, k2⟩
theorem Rel.laidO (r : Rel N M s σ H) {p : Addr} {o : HO} (ho : ∀ ps, o ≠ .tbl ps) (h : H p = none) : Rel N (own1 M p (some .far)) s σ (upd H p o) := by
  have mp := r.toRelC.fresh h
  obtain ⟨rc, e⟩ := r.toRelC.laidO ho h
  refine ⟨rc, r.len, fun i d h1 => ?_, fun i l h1 => ?_⟩
  · obtain ⟨v, k1, k2⟩ := r.sv i d h1
    exact ⟨v, k1, e.r k2⟩
  · obtain ⟨a, ys, k1, m, k2, k3⟩ := r.own i l h1
    have ne : a ≠ p := fun z => by rw [z, mp] at m; cases m
    exact ⟨a, ys, k1, by rw [own1_ne ne]; exact m, by rw [upd_ne ne]; exact k2, e.ra k3⟩
def SimD (N : En) (W : WX) (ks : List Nat) (trs : List (TE × TE)) (f : As) : Prop := ∀ M s σ H Q, Rel N M s σ H → GoodE N W σ M H (f s) (fun M' H' ds _ => ∀ vs, RA N.K M' H' vs ds → ds.length = ks.length → Q ((ks.map fun k => V.str (txt k)).zip vs) H') → tPairs trs σ H Q
structure SD (N : En) (W : WX) (X : Cx) (pos : Pos) (keys : List (Option Expr)) (es : List Expr) (ks : List Nat) (f : As) : Prop where
  ex : ∃ trs, PPs X pos keys es trs ∧ SimD N W ks trs f
  len : keys.length = ks.length
  len2 : es.length = ks.length
  all : keys.all (·.isSome) = true
theorem sd_nil : SD N W X pos [] [] [] aNil := ⟨⟨_, pps_nil, fun M s σ H Q rl q => q.here rl [] .nil rfl⟩, rfl, rfl, rfl⟩
theorem sd_cons (k : Nat) {x : Str} {j : Nat} {keys : List (Option Expr)} {es : List Expr} {ks : List Nat} (ha : SE N W X e f) (hr : SD N W X pos keys es ks fs) (hx : x = txt k := by rfl) : SD N W X pos (some (.Constant (.str x) j p) :: keys) (e :: es) (k :: ks) (aCons f fs) := by
  obtain ⟨ta, pa, sa⟩ := ha
  obtain ⟨⟨trs, pr, sr⟩, l1, l2, l3⟩ := hr
  refine ⟨⟨(tC (.str x), ta) :: trs, pps_cons pe_str pa pr, fun M s σ H Q rl q => ?_⟩, by rw [List.length_cons, List.length_cons, l1], by rw [List.length_cons, List.length_cons, l2], ?_⟩
  · show ta σ H fun v H2 => tPairs trs σ H2 fun ps H3 => Q ((V.str x, v) :: ps) H3
    refine sa M s σ H _ rl (q.bind.imp fun M1 H1 d s1 e1 r1 q1 v1 h1 => sr M1 s1 σ H1 _ r1 (q1.bind.imp fun M2 H2 ds s2 e2 r2 q2 vs h2 hl => ?_))
    have := q2.here r2 (v1 :: vs) (.cons (e2.r h1) h2) (by rw [List.length_cons, List.length_cons, hl])
    rw [hx]
    exact this
  · rw [List.all_cons, l3]; rfl
theorem merge_not {key : Key} : ∀ {kvs acc : List (Key × V)}, (∀ q ∈ kvs, q.1 ≠ key) → valV (mergeK acc kvs) key = valV acc key
  | [], acc, _ => rfl
  | q :: r, acc, h => by
    show valV (mergeK (putK acc q.1 q.2) r) key = _
    rw [merge_not fun x hx => h x (List.mem_cons_of_mem _ hx), valV_put, if_neg (fun z => h q List.mem_cons_self z.symm)]
theorem merge_look {n : Nat} (hn : n < 70) : ∀ {ks : List Nat} {vs : List V} {ds : List D} {acc : List (Key × V)} {d : D}, ks.Nodup → (∀ k ∈ ks, k < 70) → RA K M H vs ds → ds.length = ks.length → look (ks.zip ds) n = some d →
    ∃ v, valV (mergeK acc ((ks.map fun k => (Sum.inr (txt k) : Key)).zip vs)) (Sum.inr (txt n)) = some v ∧ R K M H v d
  | [], _, _, _, _, _, _, _, _, hd => by cases hd
  | k :: ks, _, _, _, _, _, _, .nil, hl, _ => by cases hl
  | k :: ks, v :: vs, d0 :: ds, acc, d, hnd, h70, .cons h1 h2, hl, hd => by
    show ∃ v', valV (mergeK (putK acc (Sum.inr (txt k)) v) ((ks.map fun k => (Sum.inr (txt k) : Key)).zip vs)) (Sum.inr (txt n)) = some v' ∧ _
    have h70' : ∀ k ∈ ks, k < 70 := fun x hx => h70 x (List.mem_cons_of_mem _ hx)
    have hk := h70 k List.mem_cons_self
    obtain ⟨g1, g2⟩ := List.nodup_cons.mp hnd
    by_cases e : k = n
    · subst e
      have : d0 = d := by
        simp only [look, List.zip_cons_cons, List.find?_cons, beq_self_eq_true, Option.map_some] at hd
        exact Option.some.inj hd
      subst this
      refine ⟨v, ?_, h1⟩
      rw [merge_not, valV_put, if_pos rfl]
      intro q hq
      obtain ⟨k', hk', e'⟩ := List.mem_map.mp (List.of_mem_zip (show (q.1, q.2) ∈ _ from hq)).1
      rw [← e']
      intro z
      have := (txt_inj (h70' k' hk') hk).mp (Sum.inr.inj z)
      subst this
      exact g1 hk'
    · refine merge_look hn g2 h70' h2 (by simpa using hl) ?_
      simp only [look, List.zip_cons_cons, List.find?_cons] at hd ⊢
      rw [show (k == n) = false from by simpa using e] at hd
      exact hd
theorem zip_kv : ∀ {ks : List Nat} {vs : List V}, ((ks.map fun k => V.str (txt k)).zip vs) = ((ks.map fun k => (Sum.inr (txt k) : Key)).zip vs).map (fun kv => (kV kv.1, kv.2))
  | [], _ => rfl
  | _ :: _, [] => rfl
  | k :: ks, v :: vs => by
    simp only [List.map_cons, List.zip_cons_cons]
    rw [zip_kv]
    rfl
def eDX (ks : List Nat) (fs : As) (fi : Ex) : Ex := fun s => (fs s).bind fun ds s1 => (fi s1).bind fun k s2 => match k with
  | .str n => lift (look (ks.zip ds) n) s2
  | _ => .stuck
theorem se_dx {keys : List (Option Expr)} {es : List Expr} {ks : List Nat} (h : SD N W X p keys es ks fs) (hi : SE N W X b fb) (hu : X.A.units + 64 < cLine) (h0 : keys ≠ [] := by exact fun z => nomatch z) (h15 : ks.length ≤ 15 := by decide) (hn : ks.Nodup := by decide) (h70 : ∀ k ∈ ks, k < 70 := by decide) (hs : NoSl b := by exact fun _ _ => rfl) :
    SE N W X (.Subscript (.Dict keys es p) b pos) (eDX ks fs fb) := by
  obtain ⟨⟨trs, pt, st⟩, l1, l2, l3⟩ := h
  obtain ⟨tb, pb, sb⟩ := hi
  refine ⟨_, pe_dget (by omega) (pe_disp pt l3 (by rw [l1, l2]) h0 (by rw [l1]; exact h15)) pb hs, fun M s σ H Q rl q => ?_⟩
  intro p np
  have dk : ∀ kvs ps, HO.dK kvs ≠ .tbl ps := fun _ _ z => nomatch z
  obtain ⟨rc0, e0⟩ := rl.toRelC.laidO (o := .dK []) (dk _) np
  have fr : Fresh M H p := ⟨rl.toRelC.fresh np, fun o z => by rw [np] at z; cases z⟩
  refine st _ s σ _ _ (rl.laidO (dk _) np) ?_
  unfold eDX at q
  cases hfs : fs s with
  | stuck => rw [hfs] at q; exact q.elim
  | exc c d s1 => rw [hfs] at q; exact GX.rebase e0 q
  | ok ds s1 =>
    rw [hfs] at q
    have q : GoodE N W σ M H ((fb s1).bind fun k s2 => match k with | .str n => lift (look (ks.zip ds) n) s2 | _ => .stuck) _ := q
    refine fun M1 H1 e1 r1 vs hv hl => ?_
    obtain ⟨mp, hp⟩ := e1.far p own1_same
    rw [upd_same] at hp
    have e01 := e0.trans e1
    refine ⟨hp, (ks.map fun k => (Sum.inr (txt k) : Key)).zip vs, zip_kv, ?_, ?_⟩
    · rw [List.length_zip, List.length_map]; omega
    have e2 := e01.updFO (o := .dK (mergeK [] ((ks.map fun k => (Sum.inr (txt k) : Key)).zip vs))) fr (dk _) ⟨_, hp, dk _⟩
    refine sb M1 s1 σ _ _ (r1.updFO mp (dk _)) ((GoodE.bind (GoodE.rebase q e2)).imp fun M2 H2 k s2 e3 r2 q2 kv hk => ?_)
    cases k with
    | str n =>
      cases hk with
      | str hn70 =>
      obtain ⟨z, hz, q3⟩ := q2.lift r2
      obtain ⟨_, hp2⟩ := e3.far p mp
      rw [upd_same] at hp2
      obtain ⟨v, k1, k2⟩ := merge_look hn70 (acc := []) hn h70 (e3.ra ((ext0_upd mp).ra hv)) hl hz
      exact ⟨p, v, rfl, .inl ⟨_, Sum.inr (txt n), .inl hp2, rfl, k1.symm⟩, q3 _ k2⟩
    | _ => exact q2.elim
theorem se_notT {t : Ts} (hK : X.K = N.K) (h : SB N W X a f) : SE N W X (.UnaryOp .Not a pos) (eNotT (tU f)) := by
  obtain ⟨ta, pa, sa⟩ := h
  refine ⟨_, pe_notT pa, fun M s σ H Q rl q => sa M s σ H _ rl ?_⟩
  unfold eNotT tU at q
  refine (GoodE.bind (GoodE.bind q)).imp fun M1 H1 x s1 e1 r1 q1 v1 h1 => ?_
  cases ht : truD x with
  | none => rw [ht] at q1; exact q1.elim
  | some k =>
    rw [ht] at q1
    exact ⟨k, hK ▸ h1.tru ht, (GoodE.here (GoodE.here q1 r1) r1) _ (.bl _)⟩
end
end Z
/-! ## errors of our own: made, raised, caught -/
namespace Z
open PySem PySem.Spec L2 GxR
open PyProof.Rows hiding St
section
variable {X : Cx} {e : Expr} {es : List Expr} {ta : TA} {x : Str} {C0 : Addr} {p1 p2 pos : Pos} {pl : Sem Bool}
/-- Base.__init__(self, ..), Base a class of the program over ValueError without an __init__ of its own -/
theorem pe_leinit (hg : Gl X x) (hm : X.mg x = some (.ref C0)) (hsp : PySem.W.specialIn X.K (.ref C0) "__getattribute__" = some (some (.builtin "type.__getattribute__"))) (hr : PySem.W.readsIn X.K C0 (.type "type") = true)
    (hf : PySem.W.findCls X.K (.ref C0) (.type "type") "__init__" = some (.val (.builtin "ValueError.__init__"))) (ha : PA X (e :: es) ta)
    (hev : eval (.Call (.Attribute (.Name x p1) "__init__" p2) (e :: es) [] pos) X.env = (do
      let ov ← eval (.Name x p1) X.env
      standAt p2.atName
      let (f, first) ← holding [ov] (getMethod ov "__init__" pl)
      callWith pos f first (backTo pos (starEach (e :: es) X.env)) (backToKw pos (keywordEach [] X.env))) := by rfl)
    (he : starEach (e :: es) X.env = (false, eval e X.env) :: starEach es X.env := by rfl) (hpl : ((backTo pos (starEach es X.env)).any fun y => y.1) = false := by rfl) (hd : (x == ("__debug__" : Str)) = false := by decide) :
    PE X (.Call (.Attribute (.Name x p1) "__init__" p2) (e :: es) [] pos) (tVeI X.K ta) := by
  refine ⟨fun pins s σ H Q I h => ?_⟩
  refine PySem.W.methodCall_KW (ld_glob I hg hm ?_ hd) hev
  refine PySem.W.method_cls I.kIn hsp (PySem.W.cls_value I.kIn hr hf rfl ?_)
  refine callWith_method1 ?_ he hpl
  refine wpAny_mono (ha.run pos pins _ σ H _ (I.tok _) h) ?_ fun _ _ z => z
  rintro us s1 ⟨vs, H1, I1, rv, a, C, ws, rfl, hl, T, ea, q⟩
  cases rv with
  | cons r1 rv =>
    cases r1
    refine oinit_ok T I1 ea ?_ fun s' I' => ⟨.non, H1, I', rfl, q⟩
    have := rv.length
    have := len_line (n := ws.length) (by omega)
    omega
end
end Z
namespace Z
open PySem PySem.Spec L2 GxR
open PyProof.Rows hiding St
/-- what __init__ of an error class promises -/
def spInit (K : PySem.W.Frag) (fld : Str) : Sp := fun vs H Q _ => ∃ a C n, vs = [.ref a, .str n] ∧ OexC K C ∧ PySem.W.findIn K (.ref C) fld = some none ∧ n.length ≤ 1000 ∧ H a = some (exo a C none) ∧ ∀ dx, H dx = none → dx ≠ a → Q .non (upd (upd H dx (exd dx [(fld, .str n)])) a (exo a C (some dx)))
theorem spInit_len {K : PySem.W.Frag} {fld a b : Str} : ∀ vs H Q E, spInit K fld vs H Q E → vs.length = [a, b].length := by
  rintro vs H Q E ⟨_, _, _, rfl, _⟩
  rfl
theorem init_body {X : Cx} {bx fld pre : Str} {C0 : Addr} {j : Nat} {p1 p2 p3 p4 p5 p6 p7 p8 p9 q1 q2 q3 q4 : Pos} {pl : Sem Bool} {vs : List V} {H : Hp} {Q : VK} {E : XK} (hg : Gl X bx) (hm : X.mg bx = some (.ref C0)) (hsp : PySem.W.specialIn X.K (.ref C0) "__getattribute__" = some (some (.builtin "type.__getattribute__")))
    (hr : PySem.W.readsIn X.K C0 (.type "type") = true) (hf : PySem.W.findCls X.K (.ref C0) (.type "type") "__init__" = some (.val (.builtin "ValueError.__init__")))
    (h0 : X.N[0]? = some ("self" : Str)) (h1 : X.N[1]? = some fld) (v0 : X.env.scope.names.lookup ("self" : Str) = some NameKind.local) (v1 : X.env.scope.names.lookup fld = some NameKind.local) (hp : pre.length ≤ 1000)
    (hev : eval (.Call (.Attribute (.Name bx p1) "__init__" p2) [.Name "self" p3, .JoinedStr [.Constant (.str pre) j p4, .FormattedValue (.Name fld p5) (-1) none p6] p7] [] p8) X.env = (do
      let ov ← eval (.Name bx p1) X.env
      standAt p2.atName
      let (f, first) ← holding [ov] (getMethod ov "__init__" pl)
      callWith p8 f first (backTo p8 (starEach [.Name "self" p3, .JoinedStr [.Constant (.str pre) j p4, .FormattedValue (.Name fld p5) (-1) none p6] p7] X.env)) (backToKw p8 (keywordEach [] X.env))))
    (hd : (bx == ("__debug__" : Str)) = false := by decide) (hd1 : (fld == ("__debug__" : Str)) = false := by decide) (hd2 : (fld == ("__classdict__" : Str)) = false := by decide)
    (hs1 : swapsWith (.Call (.Attribute (.Name bx p1) "__init__" p2) [.Name "self" p3, .JoinedStr [.Constant (.str pre) j p4, .FormattedValue (.Name fld p5) (-1) none p6] p7] [] p8) none p9.line X.env = pure false := by rfl)
    (hs2 : swapsWith (.Name fld q3) (some (.Attribute (.Name "self" q1) fld q2)) q4.line X.env = pure false := by rfl)
    (h : spInit X.K fld vs H Q E) : ∃ t, PSs X [.Expr (.Call (.Attribute (.Name bx p1) "__init__" p2) [.Name "self" p3, .JoinedStr [.Constant (.str pre) j p4, .FormattedValue (.Name fld p5) (-1) none p6] p7] [] p8) p9, .Assign [.Attribute (.Name "self" q1) fld q2] (.Name fld q3) q4] t ∧
      t { nx := fun _ H' => Q .non H', rt := Q } (L2.start ["self", fld] vs) H := by
  have ps : ∀ {p : Pos}, PE X (.Name "self" p) (tVar 0) := pe_var h0 (.inl v0) (by decide) (by decide)
  have pn : ∀ {p : Pos}, PE X (.Name fld p) (tVar 1) := pe_var h1 (.inl v1) hd1 hd2
  refine ⟨_, pss_cons (ps_expr (pe_leinit hg hm hsp hr hf (pa_cons ps (pa_cons (pe_joined (.cons pe_str (.cons (pe_fmt pn) .nil))) pa_nil)) hev (by rfl) (by rfl) hd) hs1) (pss_one (ps_ost ps pn hs2)), ?_⟩
  obtain ⟨a, C, n, rfl, T, hF, hn, ha, q⟩ := h
  refine ⟨.ref a, rfl, ?_⟩
  have l1 : ((Str.empty : Str) ++ pre).length ≤ sizeLine := by
    rw [Str.length_append]
    have : (Str.empty : Str).length = 0 := rfl
    exact len_line (by omega)
  have l2 : (((Str.empty : Str) ++ pre) ++ n).length ≤ sizeLine := by
    rw [Str.length_append, Str.length_append]
    have : (Str.empty : Str).length = 0 := rfl
    exact len_line (by omega)
  refine ⟨pre, rfl, l1, ?_⟩
  refine ⟨.str n, rfl, .inl ⟨n, rfl, len_line (by omega), n, rfl, l2, ?_⟩⟩
  refine ⟨a, C, _, rfl, (show 1 ≤ 1000 from by decide), T, ha, ?_⟩
  exact ⟨.str n, rfl, .ref a, rfl, a, C, rfl, T, hF, .inl ⟨ha, fun dx hdx hne => q dx hdx hne⟩⟩
end Z
/-! ## raise, try -/
namespace Z
open PySem PySem.Spec L2 GxR
open PyProof.Rows hiding St
/-- an error class of the program, number c -/
structure ErrC (N : En) (mg : Str → Option Value) (nm fld : Str) (c : Nat) (C fI : Addr) : Prop where
  ct : N.CT c = some (C, fld)
  gC : mg nm = some (.ref C)
  T : OexC N.K C
  iC : PySem.W.findIn N.K (.ref C) "__init__" = some (some (.ref fI))
  tI : PySem.W.typeIn N.K (.ref fI) = some (.type "function")
  noF : PySem.W.findIn N.K (.ref C) fld = some none
  xf : XfC N.K C
  te : PySem.W.exmOne N.K (.ref C) (.ref C) = some true
def sRaise (c : Nat) (f : Ex) : Ss := fun s => (f s).bind fun d s1 => match d with
  | .str n => .exc c (.str n) s1
  | _ => .stuck
theorem txt_len : ∀ n < 70, (txt n).length ≤ 100 := by
  have h : (List.range 70).all (fun n => decide ((txt n).length ≤ 100)) = true := by decide +kernel
  intro n hn
  exact of_decide_eq_true (List.all_eq_true.mp h n (List.mem_range.mpr hn))
section
variable {N : En} {W : WX} {X : Cx} {M M' : MM} {H H' : Hp} {s : S} {σ : St} {e : Expr} {f : Ex} {pos p : Pos}
theorem px0' : Passes L2.CX0 X fun _ _ _ => False := fun _ _ _ _ _ _ _ h => False.elim h
theorem tab_raise {H : Hp} {a dx b : Addr} {o : HO} (ha : H a = none) (hd : H dx = none) (h : TabG H b) : TabG (upd (del H a) dx o) b := by
  obtain ⟨ps, h1, h2⟩ := h
  refine ⟨ps, ?_, h2⟩
  have n1 : b ≠ dx := fun z => by rw [z, hd] at h1; cases h1
  have n2 : b ≠ a := fun z => by rw [z, ha] at h1; cases h1
  rw [upd_ne n1]
  unfold del
  rw [if_neg n2]
  exact h1
theorem same_raise {H : Hp} {a dx : Addr} {o : HO} (ha : H a = none) (hd : H dx = none) : Same H (upd (del H a) dx o) := by
  refine ⟨fun b u h1 _ => ?_, fun b h => tab_raise ha hd h⟩
  have n1 : b ≠ dx := fun z => by rw [z, hd] at h1; cases h1
  have n2 : b ≠ a := fun z => by rw [z, ha] at h1; cases h1
  rw [upd_ne n1]
  unfold del
  rw [if_neg n2]
  exact h1
theorem del_upd {H : Hp} {a dx : Addr} {o o' : HO} (ha : H a = none) (hne : dx ≠ a) : del (upd (upd (upd H a o) dx o') a o) a = upd H dx o' := by
  funext b
  unfold del
  by_cases h : b = a
  · subst h
    rw [if_pos rfl, upd_ne (fun z => hne z.symm), ha]
  · rw [if_neg h, upd_ne h]
    by_cases h2 : b = dx
    · subst h2
      rw [upd_same, upd_same]
    · rw [upd_ne h2, upd_ne h2, upd_ne h]
theorem ss_raise {nm fld : Str} {c : Nat} {C fI : Addr} {fd : FuncData} {k : Nat} {rp : Pos} (Er : ErrC N X.mg nm fld c C fI) (hc : X.calm = true) (tk : Takes X W) (G : FnOk X.prog X.w X.K X.mg X.base L2.CX0 k fI fd ["self", fld] (spInit N.K fld)) (hr : Room (k + 1) X.A) (hb : Binds X.K fd ["self", fld] [])
    (hg : Gl X nm) (he : SE N W X e f) (hK : X.K = N.K := by rfl) (hdb : (nm == ("__debug__" : Str)) = false := by decide) (hs : starEach [e] X.env = (false, eval e X.env) :: starEach [] X.env := by rfl) (hp : ((backTo p (starEach [] X.env)).any fun y => y.1) = false := by rfl) :
    SS N W X (.Raise (some (.Call (.Name nm p2) [e] [] p)) none rp) (sRaise c f) := by
  obtain ⟨t, pt, st⟩ := he
  refine ⟨_, ps_raise hc tk (pmk_oex (hK ▸ Er.T) (hK ▸ Er.iC) (hK ▸ Er.tI) G hr hb .nil px0' hg Er.gC (pa_cons pt pa_nil hs) hdb hs hp), fun M s σ H D rl q => ?_⟩
  refine st M s σ H _ rl ?_
  unfold sRaise at q
  refine (GoodS.bindE q).imp fun M1 H1 d s1 e1 r1 q1 v h1 => ?_
  cases d with
  | str n =>
    cases h1 with
    | str hn =>
    refine ⟨(show 1 ≤ 1000 from by decide), fun a na => ?_⟩
    refine ⟨a, C, txt n, rfl, Er.T, Er.noF, Nat.le_trans (txt_len n hn) (by decide), upd_same, fun dx ndx hne => ⟨rfl, dx, [(fld, .str (txt n))], upd_same, ?_, ?_, ?_⟩⟩
    · rw [upd_ne hne, upd_same]
    · rw [upd_ne hne] at ndx; exact ndx
    · rw [upd_ne hne] at ndx
      have sm : Same H1 (upd (del (upd (upd (upd H1 a (exo a C none)) dx (exd dx [(fld, .str (txt n))])) a (exo a C (some dx))) a) dx (.xd [(fld, .str (txt n))])) := by
        have e2 : upd (del (upd (upd (upd H1 a (exo a C none)) dx (exd dx [(fld, .str (txt n))])) a (exo a C (some dx))) a) dx (.xd [(fld, .str (txt n))]) = upd (del H1 a) dx (.xd [(fld, .str (txt n))]) := by
          funext b
          by_cases h2 : b = dx
          · subst h2; rw [upd_same, upd_same]
          · rw [upd_ne h2, upd_ne h2]
            unfold del
            by_cases h : b = a
            · rw [if_pos h, if_pos h]
            · rw [if_neg h, if_neg h, upd_ne h, upd_ne h2, upd_ne h]
        rw [e2]
        exact same_raise na ndx
      exact q1 M1 _ σ C fld dx (.str (txt n)) (r1.toRelC.ext sm) (r1.same sm) Er.ct ⟨_, upd_same, by simp [List.lookup]⟩ (.str hn)
  | _ => exact q1.elim
end
section
variable {N : En} {P : Program} {w : World} {mg : Str → Option Value} {base : Heap}
/-- a def that may let an error out -/
theorem fn_simX {x qual : Str} {st : Stmt} {f : Addr} {fd : FuncData} {Ns ps : List Str} {k : Nat} {b : Ss} (F : Fun N.K x qual st f fd) (Sc : FnScope Ns ps (defScope st))
    (hb : ∀ (cdv : Value) (A : Around) (outer : List Env) (s : Shared) (H : Hp) (E : XK), Room k (A.deeper (envOfC qual (defScope st) s.heap.objs.size f cdv)) → SSs N (fun cls d _ H => E cls d H) (cxOf (CX P w) P w N.K mg base Ns qual (defScope st) f cdv A outer s H E) (defBody st) b) :
    FnOk P w N.K mg base (CX P w) (k + 1) f fd ps (spOf N ps.length (fnS Ns.length b)) :=
  F.okX Sc sp_len fun cdv A outer s H vs Q E hr h => body_ok (hb cdv A outer s H E hr) h
def canS (N : En) (W : WX) (f : Ss) : TS := fun D σ H => ∃ M s, Rel N M s σ H ∧ GoodS N W M H (f s) (fun M' H' σ' fl _ => match fl with
  | .nx => D.nx σ' H'
  | .rt d => ∀ v, R N.K M' H' v d → D.rt v H')
theorem SSs.can {W : WX} {X : Cx} {st : List Stmt} {f : Ss} (h : SSs N W X st f) : PSs X st (canS N W f) := by
  obtain ⟨t, pt, sim⟩ := h
  refine ⟨fun pins s σ H D I q => ?_⟩
  obtain ⟨M, s', rl, g⟩ := q
  exact pt.run pins s σ H D I (sim M s' σ H D rl g)
/-- try: .. except C as n: return g(n.f) -/
def sTry (c : Nat) (g : D → D) (b : Ss) : Ss := fun s => match b s with
  | .exc c' d s1 => if c' = c then .ok (.rt (g d)) s1 else .stuck
  | r => r
end
end Z
/-! ## try: .. except C as n: return (word, n.f) -/
namespace Z
open PySem PySem.Spec L2 GxR
open PyProof.Rows hiding St
def sTry1 (c : Nat) (g : D → D) (i : Nat) (b : Ss) : Ss := fun s => match b s with
  | .exc c' d s1 => if c' = c ∧ i < s1.ρ.length then .ok (.rt (g d)) s1 else .stuck
  | r => r
/-- what the suite has: it makes of the field's value d the value g d -/
def SuiteOk (N : En) (i : Nat) (fld : Str) (C : Addr) (ts : Addr → Value → Option Addr → TS) (g : D → D) : Prop := ∀ M s σ H D a dx v d, Rel N M s σ H → i < σ.length → XD H dx fld v → R N.K M H v d →
  GoodS N (fun _ _ _ _ => False) M H (.ok () s) (fun M' H' _ _ _ => ∀ u, R N.K M' H' u (g d) → D.rt u H') → ts a (.ref C) (some dx) D (σ.set i (some (.ref a))) H
section
variable {N : En} {W : WX} {X : Cx} {body suite : List Stmt} {b₀ : Stmt} {fb : Ss} {n nm fld : Str} {c : Nat} {C fI : Addr} {i : Nat} {np pos pos' : Pos} {ts : Addr → Value → Option Addr → TS} {g : D → D}
theorem ss_try (hK : X.K = N.K) (Er : ErrC N X.mg nm fld c C fI) (hs : X.stack = X.env :: X.outer) (hf : X.env.frame = some X.env.locals) (hN : X.N.Nodup) (hi : X.N[i]? = some n) (hln : X.env.kindOf n = some .local) (hgl : Gl X nm) (tk : Takes X W)
    (hb : ∀ (W' : WX) (pn : List (Addr × Obj)) (xe : Value → Shared → Prop), Takes (X.tr pn xe) W' → SSs N W' (X.tr pn xe) body fb)
    (hsu : ∀ (a : Addr) (oe : Obj) (cls : Value) (d : Option Addr) (pn : List (Addr × Obj)), Zc cls d oe → (∃ vs, oe.data = .fields vs) → PSs (X.suite a ((a, oe) :: pn)) (b₀ :: suite) (ts a cls d))
    (ok : SuiteOk N i fld C ts g) (hdb : (nm == ("__debug__" : Str)) = false := by decide) :
    SS N W X (.Try body [.ExceptHandler (some (.Name nm np)) (some n) (b₀ :: suite) pos'] [] [] pos) (sTry1 c g i fb) := by
  refine ⟨_, ps_try_as (i := i) (tb := fun W' => canS N W' fb) hs hf hN hi hln ⟨hgl, hdb, .inl Er.gC⟩ tk (fun W' pn xe tk' _ => (hb W' pn xe tk').can) hsu, fun M s σ H D rl q => ⟨M, s, rl, ?_⟩⟩
  unfold sTry1 at q
  cases hr : fb s with
  | ok fl s1 => rw [hr] at q; exact q
  | stuck => rw [hr] at q; exact q
  | exc c' d s1 =>
    rw [hr] at q
    dsimp only at q
    by_cases hc : c' = c ∧ i < s1.ρ.length
    · rw [if_pos hc] at q
      obtain ⟨hc, hlt⟩ := hc
      subst hc
      intro M' H' σ' C' fld' dx v e r hct hX hR
      have h2 := hct.symm.trans Er.ct
      simp only [Option.some.injEq, Prod.mk.injEq] at h2
      obtain ⟨rfl, rfl⟩ := h2
      refine ⟨true, by rw [hK]; exact Er.te, fun _ a na => ?_, fun z => nomatch z⟩
      refine ok M' s1 σ' H' _ a dx v d r (by rw [r.len]; exact hlt) hX hR fun M2 H2 σ2 e2 r2 u hu => ?_
      exact q M2 H2 σ2 (e.trans e2) r2 u hu
    · rw [if_neg hc] at q
      exact q.elim
end
section
variable {N : En} {X : Cx} {a : Addr} {oe : Obj} {cls : Value} {d : Option Addr} {pn : List (Addr × Obj)} {n fld : Str} {C : Addr} {i : Nat} {p1 p2 p3 p4 p5 : Pos} {w : Nat} {j k : Nat}
/-- return (word, n.f) -/
def tsWF (K : PySem.W.Frag) (i : Nat) (w : Nat) (C : Addr) (fld : Str) (a : Addr) (cls : Value) (d : Option Addr) : TS := tRet (tTup (tCons (tC (.str (txt w))) (tCons (tXf a cls d C fld (tVar i)) tNil)))
theorem su_wf (hi : X.N[i]? = some n) (hln : X.env.scope.names.lookup n = some NameKind.local) (T : XfC X.K C) (hno : PySem.W.findIn X.K (.ref C) fld = some none) (hz : Zc cls d oe) (hf : ∃ vs, oe.data = .fields vs)
    (hw : (W0 : Str) = txt w) (hd1 : (n == ("__debug__" : Str)) = false := by decide) (hd2 : (n == ("__classdict__" : Str)) = false := by decide)
    (hb : attributeBase (.Name n p1) fld X.env (eval (.Name n p1) X.env) = eval (.Name n p1) X.env := by rfl)
    (he : starEach [.Constant (.str W0) j p3, .Attribute (.Name n p1) fld p2] X.env = (false, eval (.Constant (.str W0) j p3) X.env) :: starEach [.Attribute (.Name n p1) fld p2] X.env := by rfl)
    (he2 : starEach [.Attribute (.Name n p1) fld p2] X.env = (false, eval (.Attribute (.Name n p1) fld p2) X.env) :: starEach [] X.env := by rfl) :
    PSs (X.suite a ((a, oe) :: pn)) [.Return (some (.Tuple [.Constant (.str W0) j p3, .Attribute (.Name n p1) fld p2] k p4)) p5] (tsWF X.K i w C fld a cls d) := by
  have pv : PE (X.suite a ((a, oe) :: pn)) (.Name n p1) (tVar i) := pe_var hi (.inl hln) hd1 hd2
  have px := pe_xf (X := X) (a := a) (oe := oe) (pn := pn) (cls := cls) (d := d) (pos := p2) T hno hz hf pv hb
  subst hw
  exact pss_one (ps_ret (pe_tup (pa_cons pe_str (pa_cons px pa_nil he2) he)))
theorem ok_wf (hw : w < 70) : SuiteOk N i fld C (tsWF X.K i w C fld) (fun d => .tup [.str w, d]) := by
  intro M s σ H D a dx v d r hlt hX hR h
  obtain ⟨fs, h1, h2⟩ := hX
  refine ⟨.ref a, List.getElem?_set_self hlt, rfl, rfl, dx, fs, v, rfl, h1, h2, (show 2 ≤ sizeLine from by decide), fun p hp => ?_⟩
  have sm : Same H (upd H p (.tup [.str (txt w), v])) := Same.upd hp
  exact h M _ σ (r.toRelC.ext sm) (r.same sm) (.ref p) (.tup (.inl ⟨r.toRelC.fresh hp, .inl upd_same⟩) (.cons (.str hw) (.cons ((r.toRelC.ext sm).r hR) .nil)))
end
end Z
namespace Z
open PySem PySem.Spec L2 GxR
theorem exm_own {K : PySem.W.Frag} {S : Addr} (h1 : PySem.W.subIn K (.ref S) (.type "BaseException") = some true) (h2 : PySem.W.isClsIn K S = true) (h3 : PySem.W.typeIn K (.ref S) = some (.type "type")) (h4 : PySem.W.subIn K (.ref S) (.ref S) = some true) : PySem.W.exmOne K (.ref S) (.ref S) = some true := by
  have h5 : (PySem.W.clsIn K S).isSome = true := h2
  simp [PySem.W.exmOne, PySem.W.kitCls, h1, h3, h4, h5]
end Z
/-! ## a dict of words by numbers, kept in a name -/
namespace Z
open PySem PySem.Spec L2 GxR
open PyProof.Rows hiding St
section
variable {N : En} {W : WX} {X : Cx} {K : PySem.W.Frag} {M M' : MM} {H H' : Hp} {s : S} {σ : St} {e a b c : Expr} {f fa fb : Ex} {p p2 pos : Pos}
inductive PPl (X : Cx) (pos : Pos) : List (Option Expr) → List Expr → List (Int × Nat) → Prop
  | nil : PPl X pos [] [] []
  | cons {i : Int} {k : Nat} {x : Str} {j j2 : Nat} {p1 p2 : Pos} {keys : List (Option Expr)} {es : List Expr} {l : List (Int × Nat)} (hx : x = txt k) (h : PPl X pos keys es l) (h0 : 0 ≤ i := by decide) : PPl X pos (some (.Constant (.int i) j p1) :: keys) (.Constant (.str x) j2 p2 :: es) ((i, k) :: l)
  | consW (n : Nat) {k : Nat} {x y : Str} {j j2 : Nat} {p1 p2 : Pos} {keys : List (Option Expr)} {es : List Expr} {l : List (Int × Nat)} (hy : y = txt n) (hx : x = txt k) (h : PPl X pos keys es l) : PPl X pos (some (.Constant (.str y) j p1) :: keys) (.Constant (.str x) j2 p2 :: es) ((-(n : Int) - 1, k) :: l)
def kvL (l : List (Int × Nat)) : List (Key × V) := l.map fun q => (keyI q.1, V.str (txt q.2))
theorem PPl.pps : ∀ {keys : List (Option Expr)} {es : List Expr} {l : List (Int × Nat)}, PPl X pos keys es l → ∃ trs, PPs X pos keys es trs ∧ ∀ σ H Q, Q ((kvL l).map (fun kv => (kV kv.1, kv.2))) H → tPairs trs σ H Q
  | _, _, _, .nil => ⟨_, pps_nil, fun σ H Q q => q⟩
  | _, _, _, .cons (i := i) (k := k) hx h h0 => by
    obtain ⟨trs, pr, st⟩ := h.pps
    subst hx
    refine ⟨(tC (.int i), tC (.str (txt k))) :: trs, pps_cons pe_int pe_str pr, fun σ H Q q => ?_⟩
    show tPairs trs σ H fun ps H3 => Q ((V.int i, V.str (txt k)) :: ps) H3
    refine st σ H _ ?_
    have e : kV (keyI i) = V.int i := by rw [keyI_pos h0]; rfl
    rw [← e]
    exact q
  | _, _, _, .consW n (k := k) hy hx h => by
    obtain ⟨trs, pr, st⟩ := h.pps
    subst hx
    subst hy
    refine ⟨(tC (.str (txt n)), tC (.str (txt k))) :: trs, pps_cons pe_str pe_str pr, fun σ H Q q => ?_⟩
    show tPairs trs σ H fun ps H3 => Q ((V.str (txt n), V.str (txt k)) :: ps) H3
    refine st σ H _ ?_
    have e : kV (keyI (-(n : Int) - 1)) = V.str (txt n) := by rw [keyI_w]; rfl
    rw [← e]
    exact q
theorem PPl.len : ∀ {keys : List (Option Expr)} {es : List Expr} {l : List (Int × Nat)}, PPl X pos keys es l → keys.length = l.length ∧ es.length = l.length ∧ keys.all (·.isSome) = true
  | _, _, _, .nil => ⟨rfl, rfl, rfl⟩
  | _, _, _, .cons hx h _ => by
    obtain ⟨h1, h2, h3⟩ := h.len
    exact ⟨by rw [List.length_cons, List.length_cons, h1], by rw [List.length_cons, List.length_cons, h2], by rw [List.all_cons, h3]; rfl⟩
  | _, _, _, .consW n hy hx h => by
    obtain ⟨h1, h2, h3⟩ := h.len
    exact ⟨by rw [List.length_cons, List.length_cons, h1], by rw [List.length_cons, List.length_cons, h2], by rw [List.all_cons, h3]; rfl⟩
theorem merge_lit {acc : List (Key × V)} : ∀ {l : List (Int × Nat)} {acc : List (Key × V)}, (∀ q ∈ l, -71 < q.1) → (l.map (·.1)).Nodup → ∀ q ∈ l, valV (mergeK acc (kvL l)) (keyI q.1) = some (.str (txt q.2))
  | [], _, _, _, _, h => nomatch h
  | r :: l, acc, hk, hn, q, hq => by
    show valV (mergeK (putK acc (keyI r.1) (.str (txt r.2))) (kvL l)) (keyI q.1) = _
    rw [List.map_cons, List.nodup_cons] at hn
    rcases List.mem_cons.mp hq with rfl | hq
    · rw [merge_not, valV_put, if_pos rfl]
      intro y hy z
      obtain ⟨t, ht, rfl⟩ := List.mem_map.mp hy
      exact hn.1 (List.mem_map.mpr ⟨t, ht, keyI_inj (hk t (List.mem_cons_of_mem _ ht)) (hk _ List.mem_cons_self) z⟩)
    · exact merge_lit (acc := acc) (fun q hq => hk q (List.mem_cons_of_mem _ hq)) hn.2 q hq
theorem lit_ok {l : List (Int × Nat)} (hk : ∀ q ∈ l, -71 < q.1) (hn : (l.map (·.1)).Nodup) (h70 : ∀ q ∈ l, q.2 < 70) : DicOk (mergeK [] (kvL l)) l := by
  refine ⟨fun q hq => ⟨h70 q hq, merge_lit (acc := []) hk hn q hq⟩, fun i hi hne => ?_⟩
  rw [merge_not]
  · rfl
  · intro y hy z
    obtain ⟨t, ht, rfl⟩ := List.mem_map.mp hy
    exact hne t ht (keyI_inj (hk t ht) hi z)
theorem se_dlit {keys : List (Option Expr)} {es : List Expr} {l : List (Int × Nat)} (h : PPl X p keys es l) (h0 : keys ≠ [] := by exact fun z => nomatch z) (h15 : l.length ≤ 15 := by decide) (hn : (l.map (·.1)).Nodup := by decide) (h70 : ∀ q ∈ l, q.2 < 70 := by decide) (hk : ∀ q ∈ l, -71 < q.1 := by decide) :
    SE N W X (.Dict keys es p) (eC (.dic l)) := by
  obtain ⟨trs, pt, st⟩ := h.pps
  obtain ⟨l1, l2, l3⟩ := h.len
  refine ⟨_, pe_disp pt l3 (by rw [l1, l2]) h0 (by rw [l1]; exact h15), fun M s σ H Q rl q => ?_⟩
  intro a na
  refine st σ _ _ ⟨upd_same, kvL l, rfl, by unfold kvL; rw [List.length_map]; exact h15, ?_⟩
  have e : upd (upd H a (.dK [])) a (.dK (mergeK [] (kvL l))) = upd H a (.dK (mergeK [] (kvL l))) := by
    funext b
    by_cases hb : b = a
    · subst hb; rw [upd_same, upd_same]
    · rw [upd_ne hb, upd_ne hb, upd_ne hb]
  rw [e]
  have sm : Same H (upd H a (.dK (mergeK [] (kvL l)))) := Same.upd na
  exact q M _ (rl.toRelC.ext sm) (rl.same sm) (.ref a) (.dic (rl.toRelC.fresh na) upd_same (lit_ok hk hn h70))
def dicAt (l : List (Int × Nat)) (i : Int) : Option D := if i < 0 then none else (l.find? fun q => q.1 == i).map fun q => .str q.2
def dicW (l : List (Int × Nat)) (n : Nat) : Option D := (l.find? fun q => q.1 == -(n : Int) - 1).map fun q => .str q.2
def eDI (fa fb : Ex) : Ex := fun s => (fa s).bind fun x s1 => (fb s1).bind fun y s2 => match x, y with
  | .dic l, .int i => lift (dicAt l i) s2
  | _, _ => .stuck
/-- d[word] -/
def eDW (fa fb : Ex) : Ex := fun s => (fa s).bind fun x s1 => (fb s1).bind fun y s2 => match x, y with
  | .dic l, .str n => lift (dicW l n) s2
  | _, _ => .stuck
/-- word in d -/
def eInW (fa fb : Ex) : Ex := fun s => (fa s).bind fun y s1 => (fb s1).bind fun x s2 => match y, x with
  | .str n, .dic l => .ok (.bl (l.any fun q => q.1 == -(n : Int) - 1)) s2
  | _, _ => .stuck
theorem se_di (ha : SE N W X a fa) (hb : SE N W X b fb) (hu : X.A.units + 64 < cLine) (hs : NoSl b := by exact fun _ _ => rfl) : SE N W X (.Subscript a b pos) (eDI fa fb) := by
  obtain ⟨ta, pa, sa⟩ := ha
  obtain ⟨tb, pb, sb⟩ := hb
  refine ⟨_, pe_dget (by omega) pa pb hs, fun M s σ H Q rl q => sa M s σ H _ rl (q.bind.imp fun M1 H1 x s1 e1 r1 q1 xv hx => sb M1 s1 σ H1 _ r1 (q1.bind.imp fun M2 H2 y s2 e2 r2 q2 yv hy => ?_))⟩
  split at q2
  · rename_i l i
    obtain ⟨z, hz, q3⟩ := q2.lift r2
    cases e2.r hx with
    | dic m h1 h2 =>
      cases hy
      unfold dicAt at hz
      split at hz
      · cases hz
      · rename_i h0
        obtain ⟨q, hq, rfl⟩ := Option.map_eq_some_iff.mp hz
        have k1 := List.find?_some hq
        obtain ⟨g1, g2⟩ := h2.1 q (List.mem_of_find?_eq_some hq)
        have k2 : q.1 = i := by simpa using k1
        rw [k2, keyI_pos (by omega)] at g2
        exact ⟨_, _, rfl, .inl ⟨_, Sum.inl i, .inl h1, rfl, g2.symm⟩, q3 _ (.str g1)⟩
  · exact q2.elim
theorem se_dw (ha : SE N W X a fa) (hb : SE N W X b fb) (hu : X.A.units + 64 < cLine) (hs : NoSl b := by exact fun _ _ => rfl) : SE N W X (.Subscript a b pos) (eDW fa fb) := by
  obtain ⟨ta, pa, sa⟩ := ha
  obtain ⟨tb, pb, sb⟩ := hb
  refine ⟨_, pe_dget (by omega) pa pb hs, fun M s σ H Q rl q => sa M s σ H _ rl (q.bind.imp fun M1 H1 x s1 e1 r1 q1 xv hx => sb M1 s1 σ H1 _ r1 (q1.bind.imp fun M2 H2 y s2 e2 r2 q2 yv hy => ?_))⟩
  split at q2
  · rename_i l n
    obtain ⟨z, hz, q3⟩ := q2.lift r2
    cases e2.r hx with
    | dic m h1 h2 =>
      cases hy
      unfold dicW at hz
      obtain ⟨q, hq, rfl⟩ := Option.map_eq_some_iff.mp hz
      have k1 := List.find?_some hq
      obtain ⟨g1, g2⟩ := h2.1 q (List.mem_of_find?_eq_some hq)
      have k2 : q.1 = -(n : Int) - 1 := by simpa using k1
      rw [k2, keyI_w] at g2
      exact ⟨_, _, rfl, .inl ⟨_, Sum.inr (txt n), .inl h1, rfl, g2.symm⟩, q3 _ (.str g1)⟩
  · exact q2.elim
theorem se_inW (ha : SE N W X a fa) (hb : SE N W X b fb) (hu : X.A.units + 64 < cLine) (hm : behindInMarks .In b = false := by rfl) : SE N W X (.Compare a [.In] [b] pos) (eInW fa fb) := by
  obtain ⟨ta, pa, sa⟩ := ha
  obtain ⟨tb, pb, sb⟩ := hb
  refine ⟨_, pe_cmp (pc_din (by omega) pa pb) hm, fun M s σ H Q rl q => sa M s σ H _ rl (q.bind.imp fun M1 H1 y s1 e1 r1 q1 yv hy => sb M1 s1 σ H1 _ r1 (q1.bind.imp fun M2 H2 x s2 e2 r2 q2 xv hx => ?_))⟩
  split at q2
  · rename_i n l
    cases hx with
    | @dic a kvs _ m h1 h2 =>
      cases hy with
      | str hn =>
      refine ⟨_, _, rfl, .inl ⟨_, Sum.inr (txt n), .inl h1, rfl, rfl⟩, ?_⟩
      have e : (valV kvs (Sum.inr (txt n) : Key)).isSome = l.any fun q => q.1 == -(n : Int) - 1 := by
        rw [← keyI_w]
        cases c : l.any fun q => q.1 == -(n : Int) - 1 with
        | true =>
          obtain ⟨q, hq, k⟩ := List.any_eq_true.mp c
          have k2 : q.1 = -(n : Int) - 1 := by simpa using k
          have g := (h2.1 q hq).2
          rw [k2] at g
          rw [g]
          rfl
        | false =>
          rw [h2.2 _ (by omega) fun q hq k => by
            have := List.any_eq_false.mp c q hq
            simp [k] at this]
          rfl
      rw [e]
      exact q2.here r2 _ (.bl _)
  · exact q2.elim
end
end Z
/-! ## sum(..) of a generator expression, with or without a test -/
namespace GXX
open PySem PySem.Spec PyProof.Rows L2 GenW
section
variable {prog : Program} {w : World} {A : Around}
/-- the tests of a generator expression, one after the other -/
def gTests (cenv : Env) (ifs : List Expr) : Sem Bool := forIn ifs true fun c ok => if ok = true then (do
    let ok ← isTrue c cenv (eval c cenv)
    pure (ForInStep.yield ok)) else pure (ForInStep.yield ok)
theorem seg_loopT {elt iter tg : Expr} {ifs : List Expr} {scope : Scope} {pos : Pos} {it : Addr} {cenv : Env} {J : Nat → Shared → Shared → Prop} {Fn : Shared → Shared → Prop} {Yd : Nat → Shared → Value → Shared → Prop} {Sl : Value → Shared → Shared → Prop}
    (hco : cenv.scope.isCoroutine = false)
    (turn : ∀ k s₀ s, J k s₀ s → wpAny (model prog w) (A.over (.compLoop (.GeneratorExp elt [⟨tg, iter, ifs, 0⟩] scope pos) 0 (.ref it) .none cenv) []) (pyNext (.ref it)) (fun r s1 => match r with
      | none => Fn s₀ s1
      | some v => wpAny (model prog w) (A.over (.compLoop (.GeneratorExp elt [⟨tg, iter, ifs, 0⟩] scope pos) 0 (.ref it) .none cenv) []) (letOwnedTupleGo tg (.ref it) v) (fun _ s2 =>
          wpAny (model prog w) (A.over (.compLoop (.GeneratorExp elt [⟨tg, iter, ifs, 0⟩] scope pos) 0 (.ref it) .none cenv) []) (assign tg cenv v) (fun _ s3 =>
            wpAny (model prog w) (A.over (.compLoop (.GeneratorExp elt [⟨tg, iter, ifs, 0⟩] scope pos) 0 (.ref it) .none cenv) []) (gTests cenv ifs) (fun b s4 => if b = true then
              wpAny (model prog w) (A.over (.compLoop (.GeneratorExp elt [⟨tg, iter, ifs, 0⟩] scope pos) 0 (.ref it) .none cenv) []) (eval elt cenv) (fun y s5 => Yd k s₀ y s5) (fun _ _ => False) s4 else ∃ k', k' < k ∧ J k' s₀ s4) (fun _ _ => False) s3) (fun _ _ => False) s2) (fun _ _ => False) s1) (fun _ _ => False) s)
    (back : ∀ k s₀ y s s', Yd k s₀ y s → Sl y s s' → ∃ k', k' < k ∧ J k' s' s') :
    ∀ (n k : Nat) (s₀ s : Shared), k < n → J k s₀ s →
      Seg (model prog w) A (fun _ s₀ r s1 => r = .ok .next ∧ Fn s₀ s1) (fun _ s₀ v s kap => ∃ k, Yd k s₀ v s ∧ ∀ s', Sl v s s' → kap (.send .none) s') n s₀
        (.compLoop (.GeneratorExp elt [⟨tg, iter, ifs, 0⟩] scope pos) 0 (.ref it) .none cenv) ((model prog w).den (.compLoop (.GeneratorExp elt [⟨tg, iter, ifs, 0⟩] scope pos) 0 (.ref it) .none cenv)) [] s := by
  intro n
  induction n with
  | zero => exact fun k _ _ h => absurd h (Nat.not_lt_zero k)
  | succ n ih =>
    intro k
    induction k using Nat.strongRecOn with
    | ind k ihk =>
    intro s₀ s hk hJ
    show Seg _ A _ _ _ s₀ _ ((compTurn (.GeneratorExp elt [⟨tg, iter, ifs, 0⟩] scope pos) 0 (.ref it) .none cenv).onRaise (leaving cenv)) [] s
    rw [compTurn_gen, Sem.onRaise_eq_wrap]
    refine seg_bind_wrap (wpAny_standAt ?_)
    refine seg_bind_wrap (wpAny_mono (turn k s₀ s hJ) (fun r s1 h1 => ?_) fun _ _ z => z.elim)
    cases r with
    | none => exact seg_end (.ok .next) ⟨rfl, h1⟩
    | some v =>
      refine seg_bind_wrap (wpAny_mono h1 (fun _ s2 h2 => ?_) fun _ _ z => z.elim)
      refine seg_bind_wrap (wpAny_mono h2 (fun _ s3 h3 => ?_) fun _ _ z => z.elim)
      show Seg _ A _ _ _ s₀ _ (Sem.wrap _ _ _ _ (gTests cenv ifs >>= _)) [] s3
      refine seg_bind_wrap (wpAny_mono h3 (fun b s4 h4 => ?_) fun _ _ z => z.elim)
      have hy : ∀ v, yieldOut cenv v = yieldValue v := fun v => by simp only [yieldOut, hco, Bool.false_eq_true, if_false]
      cases b with
      | false =>
        simp only [Bool.false_eq_true, if_false] at h4 ⊢
        obtain ⟨k', hk', hJ'⟩ := h4
        exact seg_again rfl (ihk k' hk' _ s4 (by omega) hJ')
      | true =>
        simp only [if_true] at h4 ⊢
        simp only [hy]
        rw [Sem.bind_eq_wrap', Sem.bind_eq_wrap', Sem.wrap_wrap, Sem.wrap_wrap]
        refine seg_wrap (wpAny_mono h4 (fun y s4 h4 => ?_) fun _ _ z => z.elim)
        refine seg_at (seg_yield rfl rfl rfl ⟨k, h4, fun s' hs => ?_⟩)
        obtain ⟨k', hk', hJ'⟩ := back k s₀ y s4 s' h4 hs
        exact seg_again rfl (ih k' s' s' (by omega) hJ')
end
end GXX
namespace GXX
open PySem PySem.Spec PyProof.Rows L2 GenW
section
variable {P : Program} {w : World} {H : Hp} {h h' : Heap}
/-- what is tracked stands while all but one untracked object stays -/
theorem objok_but {S : Addr} (hS : H S = none) (k : ∀ b u, b ≠ S → h.get? b = some u → h'.get? b = some u) : ∀ (o : HO) (a : Addr), a ≠ S → ObjOk P w H h a o → ObjOk P w H h' a o := by
  intro o
  induction o with
  | lst xs =>
    intro a ha q
    unfold ObjOk at q ⊢
    obtain ⟨h1, its, n, h2, h3⟩ := q
    exact ⟨h1, its, n, h2, k _ _ ha h3⟩
  | tup xs =>
    intro a ha q
    unfold ObjOk at q ⊢
    obtain ⟨h1, its, h2, u, h3, h4⟩ := q
    exact ⟨h1, its, h2, u, k _ _ ha h3, h4⟩
  | dK xs =>
    intro a ha q
    unfold ObjOk at q ⊢
    obtain ⟨h1, h2, vs, h3, h4⟩ := q
    exact ⟨h1, h2, vs, h3, h4.at fun u hu => k _ _ ha hu⟩
  | dT xs =>
    intro a ha q
    unfold ObjOk at q ⊢
    obtain ⟨h1, h2, vs, h3, u, es, ep, h4, h5⟩ := q
    exact ⟨h1, h2, vs, h3, u, es, ep, k _ _ ha h4, h5⟩
  | set f n =>
    intro a ha q
    unfold ObjOk at q ⊢
    obtain ⟨u, es, ep, t, h1, r⟩ := q
    exact ⟨u, es, ep, t, k _ _ ha h1, r⟩
  | ins C d fs =>
    intro a ha q
    unfold ObjOk at q ⊢
    obtain ⟨h1, h2, h3, h4, mA, h5, h6⟩ := q
    have hd : d ≠ S := fun z => by rw [z, hS] at h1; cases h1
    exact ⟨h1, h2, h3, k _ _ ha h4, mA, h5.at fun u hu => k _ _ hd hu, h6⟩
  | own C =>
    intro a ha q
    unfold ObjOk at q ⊢
    obtain ⟨u, hu⟩ := q
    exact ⟨u, k _ _ ha hu⟩
  | xd fs =>
    intro a ha q
    unfold ObjOk at q ⊢
    obtain ⟨mA, h5, h6⟩ := q
    exact ⟨mA, h5.at fun u hu => k _ _ ha hu, h6⟩
  | met x y =>
    intro a ha q
    unfold ObjOk at q ⊢
    exact k _ _ ha q
  | rng x y =>
    intro a ha q
    unfold ObjOk at q ⊢
    obtain ⟨t, u, v, q⟩ := q
    exact ⟨t, u, v, k _ _ ha q⟩
  | frz o u ih =>
    intro a ha q
    unfold ObjOk at q ⊢
    exact ⟨k _ _ ha q.1, ih a ha q.2⟩
  | tbl ps =>
    intro a ha q
    unfold ObjOk at q ⊢
    exact k _ _ ha q
  | ext f =>
    intro a ha q
    unfold ObjOk at q ⊢
    obtain ⟨h1, ⟨u, hu⟩, h3⟩ := q
    exact ⟨h3 _ _ h1 fun u hu => k _ _ ha hu, ⟨u, k _ _ ha hu⟩, h3⟩
end
section
variable {X : Cx} {pins : List (Addr × Obj)} {σ : L2.St} {H : Hp} {s s' : Shared}
/-- a pinned object is written -/
theorem inv_swap {S : Addr} {o o' : Obj} (I : Inv X (pins ++ [(S, o)]) σ H s) (hb : S ∈ X.ex ∨ X.s_0.heap.objs.size ≤ S) (hp : ∀ p ∈ X.pn ++ pins, p.1 ≠ S) (hd : ∀ v, o'.data ≠ .cell v) (hk : ∀ b, b ≠ S → s'.heap.get? b = s.heap.get? b) (hS : s'.heap.get? S = some o') (hos : s'.os = s.os) (hba : AllBare s'.gens) :
    Inv X (pins ++ [(S, o')]) σ H s' := by
  obtain ⟨hg, hn, hl, hf, hcl⟩ := I.pin (S, o) (List.mem_append_right _ (List.mem_append_right _ List.mem_cons_self))
  have hc : ∀ x c, X.env.cells.lookup x = some c → c ≠ S := fun x c e z => by
    obtain ⟨v, u, hu, hv⟩ := I.cell x c e
    rw [z] at hu
    rw [hg] at hu
    cases hu
    exact hcl _ hv
  have I0 := I.unpinned
  have hgo : ∀ b u, b ≠ S → s.heap.get? b = some u → s'.heap.get? b = some u := fun b u hne e => by rw [hk b hne]; exact e
  have hok : HOk X.prog X.w H s'.heap := fun a u hu => objok_but hn hgo u a (fun z => by rw [z, hn] at hu; cases hu) (I.hok a u hu)
  have nS : ∀ {b : Addr}, ¬ b ∈ [S] → b ≠ S := fun h z => h (by rw [z]; exact List.mem_cons_self)
  obtain ⟨h1, g1, d1, t1, o1⟩ := s'
  have hos : o1 = s.os := hos
  subst hos
  have I1 := I0.step (ch := [S]) (h' := h1) (g' := g1) (d' := d1) (t' := t1) (H' := H) (fun b hb' => by
      rw [List.mem_singleton] at hb'
      subst hb'
      exact ⟨hb, hl, hc, hp⟩)
    (fun b u _ _ n e _ => hgo b u (nS n) e) (fun b u _ _ n e _ => ⟨u.slots, hgo b u (nS n) e⟩) (fun b u _ _ n => n) (fun b u n e => ⟨u, hgo b u (nS n) e⟩)
    (fun _ _ e => e) (fun _ _ _ e => e) (fun b ps e => ⟨#[], by rw [e]; simp⟩) (fun m hm => hm.at fun u hu => hgo _ u (fun z => hl z.symm) hu) hok hba
  have I2 := I1.pinned (fp := [S]) (fun b hb' => by
      rw [List.mem_singleton] at hb'
      subst hb'
      exact ⟨hn, hl, hf, hb, hc, hp⟩) (fun b hb' => by
      rw [List.mem_singleton] at hb'
      subst hb'
      exact ⟨o', hS, hd⟩)
  have e : pinsAt [S] h1 = [(S, o')] := by
    have hS : h1.get? S = some o' := hS
    simp [pinsAt, hS]
  rw [← e]
  exact I2
end
end GXX
namespace GXX
open PySem PySem.Spec PyProof.Rows L2 GenW GxR
section
variable {prog : Program} {w : World} {A : Around}
theorem seg_startT {elt iter tg : Expr} {ifs : List Expr} {scope : Scope} {pos : Pos} {it : Addr} {cenv : Env} {R : GenEnd} {Y : Protocol} {n : Nat} {s₀ s : Shared}
    (self : ∀ (A' : Around) (Q : Value → Shared → Prop) (E : Value → Shared → Prop), Q (.ref it) s → wpAny (model prog w) A' (pyIter (.ref it)) Q E s)
    (loop : Seg (model prog w) A R Y n s₀ (.compLoop (.GeneratorExp elt [⟨tg, iter, ifs, 0⟩] scope pos) 0 (.ref it) .none cenv) ((model prog w).den (.compLoop (.GeneratorExp elt [⟨tg, iter, ifs, 0⟩] scope pos) 0 (.ref it) .none cenv)) [] s) :
    Seg (model prog w) A R Y n s₀ (.compStart (.GeneratorExp elt [⟨tg, iter, ifs, 0⟩] scope pos) 0 (.ref it) .none cenv) ((model prog w).den (.compStart (.GeneratorExp elt [⟨tg, iter, ifs, 0⟩] scope pos) 0 (.ref it) .none cenv)) [] s := by
  show Seg _ A _ _ _ s₀ _ ((compStart (.GeneratorExp elt [⟨tg, iter, ifs, 0⟩] scope pos) 0 (.ref it) .none cenv).onRaise (leaving cenv)) [] s
  unfold compStart
  rw [Sem.onRaise_eq_wrap]
  show Seg _ A _ _ _ s₀ _ ((ask >>= _).wrap _ _ _ _) [] s
  refine seg_bind_wrap (wpAny_askSetting ?_)
  split
  · exact seg_again rfl loop
  · refine seg_bind_wrap (wpAny_rule ?_)
    show Seg _ A _ _ _ s₀ _ ((standAt iter.pos >>= _).wrap _ _ _ _) [] s
    exact seg_bind_wrap (wpAny_standAt (seg_bind_wrap (self _ _ _ (seg_again rfl loop))))
def listO (v : Value) (c : Nat) : Obj := { cls := .type "list", data := .seq #[v] c }
/-- the consumer has added n -/
structure OnS (S : Addr) (n : Int) (s s' : Shared) : Prop where
  os : s'.os = s.os
  bare : AllBare s'.gens
  heap : ∀ b, b ≠ S → s'.heap.get? b = s.heap.get? b
  acc : ∀ m t c, s.heap.get? S = some (listO (.int m t) c) → ∃ t' c', s'.heap.get? S = some (listO (.int (m + n) t') c')
abbrev RS (S : Addr) (Fn : Shared → Prop) : Nat → Shared → Shared → Prop := fun _ s₀ s1 => Fn s1 ∧ s1.heap.get? S = s₀.heap.get? S
abbrev YS (S : Addr) (Yd : Nat → Value → Shared → Prop) : Protocol := fun _ s₀ v s kap => ∃ k, (Yd k v s ∧ s.heap.get? S = s₀.heap.get? S) ∧ ∀ s', (∃ n t, v = .int n t ∧ OnS S n s s') → kap (.send .none) s'
def ItemS (S a : Addr) (g : Nat) (Yd : Nat → Value → Shared → Prop) : Prop := ∀ k v s, Yd k v s → (∃ n t m tm c, v = .int n t ∧ s.heap.get? S = some (listO (.int m tm) c) ∧ InLong n ∧ InLong (m + n)) ∧ AllBare s.gens ∧ s.heap.NoLimit ∧ s.heap.IsGen a g
def AsleepS (prog : Program) (w : World) (A : Around) (a : Addr) (g : Nat) (S : Addr) (Fn : Shared → Prop) (Yd : Nat → Value → Shared → Prop) (n : Nat) (s : Shared) : Prop :=
  s.heap.IsGen a g ∧ s.heap.NoLimit ∧ ∃ gs, s.gens[g]? = some gs ∧ gs.Goes (model prog w) A (fun n s₀ r s1 => r = .ok .next ∧ RS S Fn n s₀ s1) (YS S Yd) n (.send .none) (s.setGen g .running)
theorem listO_inj {m m' : Int} {t t' : Tok} {c c' : Nat} (e1 : some (listO (.int m t) c) = some (listO (.int m' t') c')) : m = m' ∧ t = t' ∧ c = c' := by
  unfold listO at e1
  injection e1 with e1
  injection e1 with _ _ e1
  injection e1 with e1 e2
  have := congrArg Array.toList e1
  simp at this
  exact ⟨this.1, this.2, e2⟩
theorem nolimit_upd {h : Heap} {S : Addr} {f : Obj → Obj} {v : Value} {c : Nat} (hl : h.NoLimit) (hS : h.get? S = some (listO v c)) : (h.update S f).NoLimit := by
  obtain ⟨mc, hn, e⟩ := hl
  refine ⟨mc, hn.at fun o ho => ?_, e⟩
  have ne : S ≠ cStatics := fun z => by
    obtain ⟨o, es, ep, h1, h2, _⟩ := hn
    rw [← z, hS] at h1
    cases h1
    cases h2
  rw [Heap.get?_update_other _ _ ne]
  exact ho
theorem isgen_upd {h : Heap} {S a : Addr} {g : Nat} {f : Obj → Obj} (hg : h.IsGen a g) (ne : a ≠ S) : (h.update S f).IsGen a g := by
  obtain ⟨o, nm, qn, h1, h2⟩ := hg
  exact ⟨o, nm, qn, by rw [Heap.get?_update_other _ _ (fun z => ne z.symm)]; exact h1, h2⟩
theorem sum_loopJ {a S : Addr} {g : Nat} {Fn : Shared → Prop} {Yd : Nat → Value → Shared → Prop} {Rr : Result → Shared → Prop} (hh : A.handled = none) (hd : A.depth < recursionLimit) (hi : ItemS S a g Yd) (haS : a ≠ S)
    (hfin : ∀ s' h', Fn s' → (∀ b o, s'.heap.get? b = some o → h'.get? b = some o) → ∀ m t c, s'.heap.get? S = some (listO (.int m t) c) → Rr (.ok (.ret (.int m t))) { s'.setGen g .finished with heap := h' }) :
    ∀ (n : Nat) (s : Shared), (∃ m t c, s.heap.get? S = some (listO (.int m t) c)) → AsleepS prog w A.in1.in1 a g S Fn Yd n s → codeAny (model prog w) A (.builtin "sum.loop" ⟨[.ref a, .ref S, rawInt 0, rawInt 0], []⟩) Rr s := by
  have step : ∀ (n : Nat) (s : Shared), (∀ m, n = m + 1 → ∀ s', (∃ m t c, s'.heap.get? S = some (listO (.int m t) c)) → AsleepS prog w A.in1.in1 a g S Fn Yd m s' → codeAny (model prog w) A (.builtin "sum.loop" ⟨[.ref a, .ref S, rawInt 0, rawInt 0], []⟩) Rr s') →
      (∃ m t c, s.heap.get? S = some (listO (.int m t) c)) → AsleepS prog w A.in1.in1 a g S Fn Yd n s → codeAny (model prog w) A (.builtin "sum.loop" ⟨[.ref a, .ref S, rawInt 0, rawInt 0], []⟩) Rr s := by
    intro n s ih ⟨m, t, c, hS⟩ ⟨hg, hl, gs, hgs, hgo⟩
    have hgl : g < s.gens.size := (Array.getElem?_eq_some_iff.mp hgs).1
    refine codeAny_builtin F.entry_sum_loop ?_
    rw [Around.under_plainId F.plain_sum_loop _]
    unfold Builtin.«sum.loop»
    show wpAny _ A.in1 (seqItems? (.ref S) >>= _) _ _ s
    refine wpAny_bind (wpAny_seqItems hS rfl ?_)
    show wpAny _ A.in1 (tryCatch (pyNext (.ref a)) _ >>= _) _ _ s
    refine wpAny_bind (wpAny_tryCatch ?_)
    refine wpAny_gsz (n := g + 1) hgl (wpAny_pyNext_genexpQ (A := A.in1) (P := RS S Fn) hh hl hd hg hgs hgo (fun v s1 gs' hb hv => ?_) fun s1 hp h' hk => ?_)
    · intro hsz
      obtain ⟨k, ⟨hY, hs1⟩, hk⟩ := hv
      obtain ⟨⟨n1, t1, m1, tm1, c1, rfl, hS1, il1, il2⟩, hba, hl1, hg1⟩ := hi k v s1 hY
      have e1 : s1.heap.get? S = some (listO (.int m t) c) := by rw [hs1]; exact hS
      rw [hS1] at e1
      obtain ⟨rfl, rfl, rfl⟩ := listO_inj e1
      have hsz1 : g < s1.gens.size := by
        have q : (s1.setGen g gs').gens.size = s1.gens.size := setGen_size _ _ _
        have hsz' : g + 1 ≤ (s1.setGen g gs').gens.size := hsz
        omega
      have go : wpAny (model prog w) A.in1 (mkInt (m1 + n1) >>= fun v => updateSeq S (fun _ => #[v]) >>= fun _ => again (Code.builtin "sum.loop" { pos := [.ref a, .ref S, rawInt 0, rawInt 0] })) (fun fin s' => match fin with
          | .done f => Rr (.ok f) s'
          | .again c' => c'.quiet = true ∧ codeAny (model prog w) A c' Rr s') (fun e s' => Rr (.error e) s') (s1.setGen g gs') := by
        refine wpAny_bind (wpAny_mkInt ?_)
        refine wpAny_bind (wpAny_updateSeq (o := listO (.int m1 tm1) c1) hS1 rfl ?_)
        refine wpAny_pure ⟨plainId_quiet F.plain_sum_loop _, ?_⟩
        have hS2 : (s1.heap.update S (Obj.mapSeq fun _ => #[Value.int (m1 + n1) (s1.setGen g gs').toks])).get? S = some (listO (.int (m1 + n1) (s1.setGen g gs').toks) c1) := Heap.get?_update_self _ hS1 rfl
        have on : OnS S n1 s1 (Shared.setGen { (s1.setGen g gs') with heap := s1.heap.update S (Obj.mapSeq fun _ => #[Value.int (m1 + n1) (s1.setGen g gs').toks]), toks := (s1.setGen g gs').toks + 1 } g .running) :=
          ⟨rfl, allBare_setGen (s := { (s1.setGen g gs') with heap := s1.heap.update S (Obj.mapSeq fun _ => #[Value.int (m1 + n1) (s1.setGen g gs').toks]), toks := (s1.setGen g gs').toks + 1 }) (allBare_setGen hba hb) rfl, fun b hne => Heap.get?_update_other _ _ (fun z => hne z.symm), fun m t c h => by
            rw [hS1] at h
            obtain ⟨rfl, rfl, rfl⟩ := listO_inj h
            exact ⟨_, _, hS2⟩⟩
        cases n with
        | zero => exact (hk _ ⟨n1, t1, rfl, on⟩).elim
        | succ n => exact ih n rfl _ ⟨_, _, _, hS2⟩ ⟨isgen_upd hg1 haS, nolimit_upd hl1 hS1, gs', setGen_at hsz1, hk _ ⟨n1, t1, rfl, on⟩⟩
      show wpAny _ _ (if (0 != 0) = true then _ else (if (_ && _) = true then (mkInt (m1 + n1) >>= fun v => updateSeq S (fun _ => #[v]) >>= fun _ => again (Code.builtin "sum.loop" { pos := [.ref a, .ref S, rawInt 0, rawInt 0] })) else _)) _ _ _
      have fl : ∀ i : Int, InLong i → (decide (-2 ^ 63 ≤ i) && decide (i < 2 ^ 63)) = true := fun i h => by rw [decide_eq_true h.1, decide_eq_true h.2]; rfl
      have fl2 : ∀ i : Int, InLong i → decide (-2 ^ 63 ≤ i ∧ i < 2 ^ 63) = true := fun i h => decide_eq_true h
      rw [if_neg (by decide)]
      split
      · exact go
      · rename_i hno
        first
          | exact absurd ((Bool.and_eq_true _ _).mpr ⟨fl _ il1, fl _ il2⟩) hno
          | exact absurd ((Bool.and_eq_true _ _).mpr ⟨fl2 _ il1, fl2 _ il2⟩) hno
    · intro _
      obtain ⟨hF, hs1⟩ := hp
      have hS1 : s1.heap.get? S = some (listO (.int m t) c) := by rw [hs1]; exact hS
      exact wpAny_pure (hfin s1 h' hF hk m t c hS1)
  intro n
  induction n with
  | zero => exact fun s hS ha => step 0 s (fun m e => nomatch e) hS ha
  | succ n ih => exact fun s hS ha => step (n + 1) s (fun m e => by cases e; exact ih) hS ha
end
end GXX
namespace GXX
open PySem PySem.Spec PyProof.Rows L2 GenW GxR
/-- what sum(..) of a generator expression asks -/
def tSum (P : Addr) (wi : TI) (g : TG) (tt : TT) (te : TE) (vs : List Nat) : TE := fun σ H Q => wi σ H fun J H1 => TabG H1 P ∧ ∀ H2, Tabbed P H1 H2 → ∃ W : Nat → Nat → Int → Hp → Prop, (∃ m, W 0 m 0 H2) ∧ ∀ i m acc H, W i m acc H →
  (J.stop i H ∧ Q (.int acc) H) ∨ (J.go i H ∧ ∃ Nx : Int → Hp → Prop, (∀ acc' H', Nx acc' H' → ∃ m', m' < m ∧ W (i + 1) m' acc' H') ∧ ∀ x H', J.yld i H x H' → g x (wipe σ vs) H' fun σ2 H2 => wipe σ2 vs = wipe σ vs ∧
    tt σ2 H2 fun b H3 => (b = false → Nx acc H3) ∧ (b = true → te σ2 H3 fun y H4 => ∃ n, y = .int n ∧ InLong n ∧ InLong (acc + n) ∧ Nx (acc + n) H4))
abbrev genCodeT (elt tg iter : Expr) (ifs : List Expr) (scope : Scope) (pos : Pos) (it : Addr) : Env → Code := fun e => .compLoop (.GeneratorExp elt [⟨tg, iter, ifs, 0⟩] scope pos) 0 (.ref it) .none e
theorem room_genT {X : Cx} {k : Nat} {s : Shared} {H : Hp} {scope sc2 : Scope} {cl : List (Str × Addr)} {C it : Addr} {code : Value} {fp : List Addr} {elt tg iter : Expr} {ifs : List Expr} {pos : Pos} (hr : Room (k + 1) X.A) : Room k (genCx X s H scope cl C code (genCodeT elt tg iter ifs sc2 pos it) fp).A := by
  refine ⟨hr.hd, ?_, ?_⟩
  · have := hr.dp
    show X.A.depth + 0 + 1 + 3 * k + 5 < _
    omega
  · have := hr.un
    show X.A.units + 1 + 1 + 0 + 3 + 16 * k + 200 < _
    omega
section
variable {X : Cx} {pins : List (Addr × Obj)} {σ : L2.St} {H : Hp} {s : Shared}
structure PGT (X : Cx) (ifs : List Expr) (t : TT) : Prop where
  run : ∀ (pins : List (Addr × Obj)) (s : Shared) (σ : L2.St) (H : Hp) (Q : Bool → Hp → Prop), Inv X pins σ H s → t σ H Q → wpAny (model X.prog X.w) X.A (gTests X.env ifs) (TP X pins σ Q) X.xe s
theorem pgt_nil : PGT X [] tYes := ⟨fun pins s σ H Q I h => by
  unfold gTests
  rw [List.forIn_nil]
  exact wpAny_pure ⟨H, I, h⟩⟩
theorem pgt_one {c : Expr} {t : TT} (h : PT X c t) : PGT X [c] t := ⟨fun pins s σ H Q I q => by
  unfold gTests
  rw [List.forIn_cons]
  refine wpAny_bind ?_
  simp only [if_true]
  refine wpAny_bind (wpAny_mono (h.run pins s σ H Q I q) (fun b s1 h1 => ?_) fun _ _ z => z)
  refine wpAny_pure ?_
  show wpAny _ _ (forIn [] b _) _ _ s1
  rw [List.forIn_nil]
  exact wpAny_pure h1⟩
theorem gen_madeS {c0 P : Addr} {elt iter tg : Expr} {ifs : List Expr} {scope : Scope} {gpos : Pos} {own : List (Str × Nat)} {wi : TI} {g : TG} {tt : TT} {te : TE} {Q : VK} {Q' : Value → Shared → Prop}
    (hcalm : X.calm = true) (hhd : X.A.handled = none) (hdp : X.A.depth < recursionLimit) (TB : TabB X.base X.mg c0 P) (hcode : X.env.code = .ref c0) (hi : PI X tg iter wi) (ok : BlkOk X.N X.env.scope scope own) (noc : ∀ y ∈ scope.names, y.2 ≠ .cell)
    (hN : X.N.Nodup) (hdot : scope.names.lookup (".0" : Str) = some NameKind.local) (hco : scope.isCoroutine = false)
    (hg : ∀ (s : Shared) (H : Hp) (cl : List (Str × Addr)) (C : Addr) (code : Value) (it : Addr) (fp : List Addr), PG (genCx X s H scope cl C code (genCodeT elt tg iter ifs scope gpos it) fp) tg g)
    (hts : ∀ (s : Shared) (H : Hp) (cl : List (Str × Addr)) (C : Addr) (code : Value) (it : Addr) (fp : List Addr), PGT (genCx X s H scope cl C code (genCodeT elt tg iter ifs scope gpos it) fp) ifs tt)
    (he : ∀ (s : Shared) (H : Hp) (cl : List (Str × Addr)) (C : Addr) (code : Value) (it : Addr) (fp : List Addr), PE (genCx X s H scope cl C code (genCodeT elt tg iter ifs scope gpos it) fp) elt te)
    (hs : ∀ v, genFold iter X.env v = pure v) (I : Inv X pins σ H s) (h : tSum P wi g tt te (own.map (·.2)) σ H Q)
    (hQ : ∀ (a : Addr) (g0 : Nat) (s5 : Shared), s5.heap.IsGen a g0 → (∀ (S : Addr) (s6 : Shared) (t : Tok) (c : Nat), s5.heap.objs.size ≤ S → s6.heap.get? S = some (listO (.int 0 t) c) → (∀ b o, s5.heap.get? b = some o → s6.heap.get? b = some o) → s6.os = s5.os → s6.gens = s5.gens →
      ∃ n Fn Yd, a ≠ S ∧ ItemS S a g0 Yd ∧ (∀ s' h', Fn s' → (∀ b o, s'.heap.get? b = some o → h'.get? b = some o) → ∀ m t c, s'.heap.get? S = some (listO (.int m t) c) → EP X pins σ Q (.int m t) { s'.setGen g0 .finished with heap := h' }) ∧
        AsleepS X.prog X.w X.A.in1.in1 a g0 S Fn Yd n s6) → Q' (.ref a) s5) :
    wpAny (model X.prog X.w) X.A (eval (.GeneratorExp elt [⟨tg, iter, ifs, 0⟩] scope gpos) X.env) Q' X.xe s := by
  have hfree : ∀ y ∈ scope.names, y.2 = .free → ∃ c, X.env.cells.lookup y.1 = some c := fun y hy e => (ok.free y hy e).elim (fun k => I.ok.has _ (.inl k)) fun k => I.ok.has _ (.inr k)
  refine wpAny_GeneratorExp_make hco (closure_ok hfree) noc hdot ok.kind hdp ?_ hs
  refine thn (hi.run pins s σ H _ I h) fun xv s1 h1 => thn h1 fun itv s2 h2 => ?_
  obtain ⟨it, fp, tn, J, H2, e, I2, T, st2, f2, ⟨ps, hP, ht⟩, q⟩ := h2
  subst e
  refine ⟨I2.nolimit, ?_⟩
  have hPs : s2.heap.get? P = some { cls := .none, data := .fields ps } := I2.hok P _ hP
  have cd : PySem.W.CodeHd s2.heap c0 P := TB.code.keeps fun b u e => I2.bk b u e
  have fpP : ∀ b ∈ fp, b ≠ P := fun b hb z => by
    have := (f2 b hb).1
    rw [z, hP] at this
    cases this
  -- behind the code's making
  have cont : ∀ (code : Value) (s3 : Shared) (H3 : Hp), Inv X pins σ H3 s3 → Tabbed P H2 H3 → (∀ b o, b ≠ P → s2.heap.get? b = some o → s3.heap.get? b = some o) →
      wpAny (model X.prog X.w) X.A (builtinsFor X.env.globals X.env.builtins) (fun bi s4 => ∀ h', h'.Ns s4.heap.objs.size (fun y => if y = ".0" then some (Value.ref it) else none) → Heap.SameBut s4.heap.objs.size (s4.heap.push { cls := .type "frame", data := .dict #[] }) h' →
          Q' (.ref h'.objs.size) { s4 with
            gens := s4.gens.push (.fresh (.compStart (.GeneratorExp elt [⟨tg, iter, ifs, 0⟩] scope gpos) 0 (.ref it) .none (genEnv scope (cloFrom X.env.cells scope.names []) s4.heap.objs.size code bi X.env))),
            toks := s4.toks + 1 + 1 + 1,
            heap := h'.push { cls := .type "generator", data := .fields #[.int s4.gens.size 0, .str "<genexpr>" (s4.toks + 1), .str (X.env.qual ++ "<genexpr>") (s4.toks + 1 + 1)] } }) X.xe s3 := by
    intro code s3 H3 I3 htab k23
    obtain ⟨bm, ob, e1, e2, e3, e4, e5, e6, e7, e8⟩ := TB.bm
    refine wpAny_builtinsFor (m := X.mg) (by rw [I3.ok.glob]; exact I3.mod.glob.keeps I3.bk) e1 e2 (I3.bk _ _ e5) e6 e7 e8 ?_
    intro h' hns hsb
    obtain ⟨W, ⟨m0, w0⟩, turn⟩ := q H3 htab
    generalize hgo : ({ cls := .type "generator", data := .fields #[.int s3.gens.size 0, .str "<genexpr>" (s3.toks + 1), .str (X.env.qual ++ "<genexpr>") (s3.toks + 1 + 1)] } : Obj) = go
    generalize hs5 : ({ s3 with gens := s3.gens.push (.fresh (.compStart (.GeneratorExp elt [⟨tg, iter, ifs, 0⟩] scope gpos) 0 (.ref it) .none (genEnv scope (cloFrom X.env.cells scope.names []) s3.heap.objs.size code builtinsNs X.env))), toks := s3.toks + 1 + 1 + 1, heap := h'.push go } : Shared) = s5
    have h5 : s5.heap = h'.push go := by rw [← hs5]
    have g5 : s5.gens = s3.gens.push (.fresh (.compStart (.GeneratorExp elt [⟨tg, iter, ifs, 0⟩] scope gpos) 0 (.ref it) .none (genEnv scope (cloFrom X.env.cells scope.names []) s3.heap.objs.size code builtinsNs X.env))) := by rw [← hs5]
    have o5 : s5.os = s3.os := by rw [← hs5]
    have sz' : h'.objs.size = s3.heap.objs.size + 1 := by rw [hsb.1, Heap.size_push]
    have k3' : ∀ b o, s3.heap.get? b = some o → h'.get? b = some o := fun b o e => (hsb.2 b (Nat.ne_of_lt (Heap.lt_size e))).trans (Heap.get?_push_of_some _ e)
    have k35 : ∀ b o, s3.heap.get? b = some o → s5.heap.get? b = some o := fun b o e => by rw [h5]; exact Heap.get?_push_of_some _ (k3' b o e)
    have ga : s5.heap.get? h'.objs.size = some go := by
      rw [h5, ← hgo]
      exact Heap.get?_push_size _ rfl
    have gd : ∀ v, go.data ≠ .cell v := fun v z => by
      rw [← hgo] at z
      cases z
    have isgk : ∀ {h6 : Heap}, h6.get? h'.objs.size = some go → h6.IsGen h'.objs.size s3.gens.size := fun e => ⟨go, _, _, e, by rw [← hgo], by rw [← hgo], by rw [← hgo]⟩
    have isg : ∀ {h6 : Heap}, h6.get? h'.objs.size = some go → h6.IsGen h'.objs.size s3.gens.size := fun e => ⟨go, _, _, e, by rw [← hgo], by rw [← hgo], by rw [← hgo]⟩
    have f3 : ∀ b ∈ fp, FpOk X pins H3 b ∧ b < s3.heap.objs.size := fun b hb => by
      obtain ⟨o, e, _⟩ := T.obj _ _ st2 b hb
      refine ⟨⟨?_, (f2 b hb).2⟩, Heap.lt_size (k23 b o (fpP b hb) e)⟩
      rw [htab.2 b (fpP b hb)]
      exact (f2 b hb).1
    have st5 : tn 0 s5.heap := T.keep _ _ _ st2 fun b hb o e => k35 b o (k23 b o (fpP b hb) e)
    have b5 : AllBare s5.gens := by
      rw [g5]
      exact I3.bare.push rfl
    have ns5 : s5.heap.Ns s3.heap.objs.size (fun y => if y = ".0" then some (Value.ref it) else none) := by
      rw [h5]
      exact hns.push _
    have I5 := gen_start (code := code) (c := genCodeT elt tg iter ifs scope gpos it) I3 ok noc hN f3 (fun _ => rfl) k35 o5 b5 ns5 ga gd (by rw [sz']; exact Nat.lt_succ_self _)
    generalize hXg : genCx X s3 H3 scope (cloFrom X.env.cells scope.names []) s3.heap.objs.size code (genCodeT elt tg iter ifs scope gpos it) fp = Xg at I5
    have pg : PG Xg tg g := by rw [← hXg]; exact hg _ _ _ _ _ _ _
    have ptt : PGT Xg ifs tt := by rw [← hXg]; exact hts _ _ _ _ _ _ _
    have pe : PE Xg elt te := by rw [← hXg]; exact he _ _ _ _ _ _ _
    have xP : Xg.prog = X.prog := by rw [← hXg]
    have xw : Xg.w = X.w := by rw [← hXg]
    have xK : Xg.K = X.K := by rw [← hXg]
    have xc : Xg.calm = true := by rw [← hXg]; exact hcalm
    have xA : Xg.A = X.A.in1.in1.over (.compLoop (.GeneratorExp elt [⟨tg, iter, ifs, 0⟩] scope gpos) 0 (.ref it) .none (genEnv scope (cloFrom X.env.cells scope.names []) s3.heap.objs.size code builtinsNs X.env)) [] := by rw [← hXg]
    have xE : Xg.env = genEnv scope (cloFrom X.env.cells scope.names []) s3.heap.objs.size code builtinsNs X.env := by rw [← hXg]
    have xe : Xg.xe = fun _ _ => False := by rw [← hXg]
    have xn : Xg.pn = [] := by rw [← hXg]
    have xex : Xg.ex = fp := by rw [← hXg]
    have fp5 : ∀ b ∈ fp, b ≠ h'.objs.size := fun b hb z => by
      have := (f3 b hb).2
      rw [z, sz'] at this
      exact absurd this (Nat.not_lt.mpr (Nat.le_succ _))
    refine hQ h'.objs.size s3.gens.size s5 (isg ga) fun S s6 tS cS hSz hS6 k56 os6 g6 => ?_
    have aS : h'.objs.size ≠ S := fun z => by
      have := Heap.lt_size ga
      rw [z] at this
      exact absurd this (Nat.not_lt.mpr hSz)
    have s3S : s3.heap.objs.size ≤ S := by
      have : s3.heap.objs.size ≤ s5.heap.objs.size := by
        rw [h5, Heap.size_push, sz']
        exact Nat.le_trans (Nat.le_succ _) (Nat.le_succ _)
      exact Nat.le_trans this hSz
    have fpS : ∀ b ∈ fp, b ≠ S := fun b hb z => by
      have := (f3 b hb).2
      rw [z] at this
      exact absurd this (Nat.not_lt.mpr s3S)
    have xs0 : Xg.s_0 = s3 := by rw [← hXg]
    have I6 : Inv Xg [(h'.objs.size, go), (S, listO (.int 0 tS) cS)] (wipe σ (own.map (·.2))) H3 s6 := by
      obtain ⟨h6, gg6, d6, t6, o6⟩ := s6
      have os6 : o6 = s5.os := os6
      have g6 : gg6 = s5.gens := g6
      subst os6 g6
      have I5' := I5.kept (h' := h6) (t' := t6) k56
      have I5'' : Inv Xg [(h'.objs.size, go)] (wipe σ (own.map (·.2))) H3 ⟨h6, s5.gens, d6, t6, s5.os⟩ := inv_still I5' ⟨rfl, b5, rfl⟩
      have hnone : H3 S = none := I5.hok.fresh hSz
      have hcell : ∀ x c, Xg.env.cells.lookup x = some c → c ≠ S := fun x c e z => by
        obtain ⟨v, u, hu, _⟩ := I5.cell x c e
        rw [z] at hu
        have := Heap.lt_size hu
        exact absurd (Nat.lt_of_lt_of_le this (Nat.le_refl _)) (Nat.not_lt.mpr hSz)
      have I7 := I5''.pinned (fp := [S]) (fun b hb => by
        rw [List.mem_singleton] at hb
        subst hb
        refine ⟨hnone, fun z => ?_, fun z => ?_, .inr (by rw [xs0]; exact s3S), hcell, fun p hp => ?_⟩
        · have := I5.lt
          rw [← z] at this
          exact absurd this (Nat.not_lt.mpr hSz)
        · exact I5.nofs hSz z
        · rw [xn, List.nil_append, List.mem_singleton] at hp
          rw [hp]
          exact aS) (fun b hb => by
        rw [List.mem_singleton] at hb
        subst hb
        exact ⟨_, hS6, fun v z => nomatch z⟩)
      have e : pinsAt [S] h6 = [(S, listO (.int 0 tS) cS)] := by
        have hS6 : h6.get? S = some (listO (.int 0 tS) cS) := hS6
        simp [pinsAt, hS6]
      have I8 : Inv Xg ([(h'.objs.size, go)] ++ pinsAt [S] h6) (wipe σ (own.map (·.2))) H3 ⟨h6, s5.gens, d6, t6, s5.os⟩ := I7
      rw [e] at I8
      exact I8
    have b6 : AllBare s6.gens := by rw [g6]; exact b5
    have stat : ∀ {σ' : L2.St} {H' : Hp} {s' : Shared} {oS : Obj}, Inv Xg [(h'.objs.size, go), (S, oS)] σ' H' s' → (∀ b ∈ fp, H' b = none) → ∀ b ∈ fp, FpOk Xg [(h'.objs.size, go), (S, oS)] H' b := fun {σ' H' s' oS} I' hn b hb =>
      ⟨hn b hb, (I'.ok.exf b (by rw [xex]; exact hb)).1, I'.ok.exfs b (by rw [xex]; exact hb), .inl (by rw [xex]; exact hb), fun x c e => (I'.ok.exf b (by rw [xex]; exact hb)).2 x c e, fun p hp => by
        rw [xn, List.nil_append] at hp
        rcases List.mem_cons.mp hp with hp | hp
        · rw [hp]
          exact (fp5 b hb).symm
        · rw [List.mem_singleton] at hp
          rw [hp]
          exact (fpS b hb).symm⟩
    have atg : ∀ {σ' : L2.St} {H' : Hp} {s' : Shared} {oS : Obj}, Inv Xg [(h'.objs.size, go), (S, oS)] σ' H' s' → s'.heap.get? h'.objs.size = some go := fun I' => (I'.pin (h'.objs.size, go) (List.mem_append_right _ List.mem_cons_self)).1
    have atS : ∀ {σ' : L2.St} {H' : Hp} {s' : Shared} {oS : Obj}, Inv Xg [(h'.objs.size, go), (S, oS)] σ' H' s' → s'.heap.get? S = some oS := fun {_ _ _ oS} I' => (I'.pin (S, oS) (List.mem_append_right _ (List.mem_cons_of_mem _ List.mem_cons_self))).1
    -- back in the def
    have out : ∀ {σ' : L2.St} {H' : Hp} {s' s'' : Shared} {oS : Obj}, Inv Xg [(h'.objs.size, go), (S, oS)] σ' H' s' → s''.os = s'.os → AllBare s''.gens → (∀ b o, s'.heap.get? b = some o → s''.heap.get? b = some o) → Inv X pins σ H' s'' := fun {σ' H' s' s'' oS} I' ho hb hk => by
      have un := I'.base
      have os' := I'.os
      have ok' := I'.hok
      rw [← hXg] at un os' ok'
      exact I3.call' (ch := fp) (ho.trans os') (un.trans (Un.kept hk)) (ok'.kept hk) hb fun b hb => ⟨(f3 b hb).1.2.2.2.1, (f3 b hb).1.2.1, (f3 b hb).1.2.2.2.2.1, (f3 b hb).1.2.2.2.2.2⟩
    refine ⟨m0 + 1, (fun s' => ∃ σ' H' acc t c, Inv Xg [(h'.objs.size, go), (S, listO (.int acc t) c)] σ' H' s' ∧ Q (.int acc) H'),
      (fun k v s' => ∃ n t acc tm c σ' H', v = .int n t ∧ Inv Xg [(h'.objs.size, go), (S, listO (.int acc tm) c)] σ' H' s' ∧ InLong n ∧ InLong (acc + n) ∧ ∃ i k', k' < k ∧ Inv Xg [(h'.objs.size, go), (S, listO (.int acc tm) c)] (wipe σ (own.map (·.2))) H' s' ∧ tn i s'.heap ∧ (∀ b ∈ fp, H' b = none) ∧ W i k' (acc + n) H'),
      aS, fun k v s' hy => ?_, fun s' h6 hf hk m t c hm => ?_, isgk (k56 _ _ ga), I6.nolimit, .fresh (.compStart (.GeneratorExp elt [⟨tg, iter, ifs, 0⟩] scope gpos) 0 (.ref it) .none (genEnv scope (cloFrom X.env.cells scope.names []) s3.heap.objs.size code builtinsNs X.env)), by rw [g6, g5]; exact Array.getElem?_push_size .., rfl, ?_⟩
    · obtain ⟨n, t, acc, tm, c, σ', H', rfl, I', l1, l2, _⟩ := hy
      exact ⟨⟨n, t, acc, tm, c, rfl, atS I', l1, l2⟩, I'.bare, I'.nolimit, isgk (atg I')⟩
    · obtain ⟨σ', H', acc, t', c', I', qf⟩ := hf
      have e := atS I'
      rw [hm] at e
      obtain ⟨rfl, rfl, rfl⟩ := listO_inj e
      exact ⟨.int m, H', out I' rfl (allBare_setGen I'.bare rfl) hk, ⟨_, rfl⟩, qf⟩
    · -- the loop
      have run0 : Still s6 (s6.setGen s3.gens.size .running) := ⟨rfl, allBare_setGen b6 rfl, rfl⟩
      have st6 : tn 0 s6.heap := T.keep _ _ _ st5 fun b hb o e => k56 b o e
      refine seg_startT (fun A' Q E hq => T.self A' 0 _ Q E st6 hq) ?_
      refine seg_loopT (J := fun k s0 s' => ∃ i H' acc t c, s0.heap.get? S = some (listO (.int acc t) c) ∧ Inv Xg [(h'.objs.size, go), (S, listO (.int acc t) c)] (wipe σ (own.map (·.2))) H' s' ∧ tn i s'.heap ∧ (∀ b ∈ fp, H' b = none) ∧ W i k acc H')
        (Fn := fun s0 s1 => (∃ σ' H' acc t c, Inv Xg [(h'.objs.size, go), (S, listO (.int acc t) c)] σ' H' s1 ∧ Q (.int acc) H') ∧ s1.heap.get? S = s0.heap.get? S)
        (Yd := fun k s0 v s' => (∃ n t acc tm c σ' H', v = .int n t ∧ Inv Xg [(h'.objs.size, go), (S, listO (.int acc tm) c)] σ' H' s' ∧ InLong n ∧ InLong (acc + n) ∧ ∃ i k', k' < k ∧ Inv Xg [(h'.objs.size, go), (S, listO (.int acc tm) c)] (wipe σ (own.map (·.2))) H' s' ∧ tn i s'.heap ∧ (∀ b ∈ fp, H' b = none) ∧ W i k' (acc + n) H') ∧ s'.heap.get? S = s0.heap.get? S)
        (Sl := fun v s s' => ∃ n t, v = .int n t ∧ OnS S n s s') hco (fun k s0 s' hJ => ?_) (fun k s0 y s' s'' hy hst => ?_) (m0 + 1) m0 _ _ (Nat.lt_succ_self _)
        ⟨0, H3, 0, tS, cS, hS6, inv_still I6 run0, by rw [run0.heap]; exact st6, fun b hb => (f3 b hb).1.1, w0⟩
      · obtain ⟨i, H', acc, t, c, hs0, I', st', n', w'⟩ := hJ
        have T' : Turn Xg.prog Xg.w Xg.K tg J fp it tn := by
          rw [xP, xw, xK]
          exact T
        rw [← xP, ← xw, ← xA, ← xE]
        rcases turn i k acc H' w' with ⟨stop, qq⟩ | ⟨go', Nx, hNx, step⟩
        · refine thnF (T'.done Xg rfl rfl rfl xc i _ s' _ H' (fun _ _ => False) I' (stat I' n') st' stop) fun r s7 ⟨hr, I7⟩ => ?_
          subst hr
          exact ⟨⟨_, H', acc, t, c, I7, qq⟩, by rw [atS I7, hs0]⟩
        · refine thnF (T'.item Xg rfl rfl rfl xc i _ s' _ H' (fun _ _ => False) I' (stat I' n') st' go') fun r s7 ⟨u, hr, h6⟩ => ?_
          subst hr
          refine thnF h6 fun _ s7 ⟨x, H7, I7, r7, y7, st7, n7⟩ => ?_
          have I7' := I7.pinned (stat I7 n7) (T.obj _ _ st7)
          refine wpAny_mono (pg.run _ s7 _ H7 x u _ I7' r7 (step x H7 y7)) (fun _ s8 ⟨σ8, H8, I8, hw8, q8⟩ => ?_) fun _ _ z => by rw [xe] at z; exact z
          refine wpAny_mono (ptt.run _ s8 σ8 H8 _ I8 q8) (fun z s9 ⟨H9, I9, q1, q2⟩ => ?_) fun _ _ z => by rw [xe] at z; exact z
          have hl : (wipe σ (own.map (·.2))).length = σ8.length := by rw [← hw8, wipe_length]
          have keepJ : ∀ {H9 : Hp} {s9 : Shared}, Inv Xg ([(h'.objs.size, go), (S, listO (.int acc t) c)] ++ pinsAt fp s7.heap) σ8 H9 s9 → Inv Xg [(h'.objs.size, go), (S, listO (.int acc t) c)] (wipe σ (own.map (·.2))) H9 s9 ∧ tn (i + 1) s9.heap ∧ ∀ b ∈ fp, H9 b = none := fun {H9 s9} I9 => by
            have pin9 : ∀ b ∈ fp, ∀ o, s7.heap.get? b = some o → s9.heap.get? b = some o ∧ H9 b = none := fun b hb o e =>
              let z := I9.pin (b, o) (List.mem_append_right _ (List.mem_append_right _ (mem_pinsAt hb e)))
              ⟨z.1, z.2.1⟩
            refine ⟨(I9.unpinned).weak hl (fun j v e => ?_), T.keep _ _ _ st7 fun b hb o e => (pin9 b hb o e).1, fun b hb => ?_⟩
            · rw [← hw8] at e
              exact (wipe_some e).1
            · obtain ⟨o, e, _⟩ := T.obj _ _ st7 b hb
              exact (pin9 b hb o e).2
          cases z with
          | false =>
            rw [if_neg (by decide)]
            obtain ⟨m', hm, w9⟩ := hNx _ _ (q1 rfl)
            obtain ⟨j1, j2, j3⟩ := keepJ I9
            exact ⟨m', hm, i + 1, H9, acc, t, c, hs0, j1, j2, j3, w9⟩
          | true =>
            rw [if_pos rfl]
            refine wpAny_mono (pe.run _ s9 σ8 H9 _ I9 (q2 rfl)) (fun z s10 ⟨yv, H10, I10, r10, n, hn, l1, l2, q3⟩ => ?_) fun _ _ z => by rw [xe] at z; exact z
            subst hn
            obtain ⟨tz, ez⟩ : ∃ tz, z = Value.int n tz := r10
            obtain ⟨m', hm, w9⟩ := hNx _ _ q3
            obtain ⟨j1, j2, j3⟩ := keepJ I10
            exact ⟨⟨n, tz, acc, t, c, σ8, H10, ez, I10.unpinned, l1, l2, i + 1, m', hm, j1, j2, j3, w9⟩, by rw [atS I10.unpinned, hs0]⟩
      · obtain ⟨⟨n, t, acc, tm, c, σ', H', rfl, I1, l1, l2, i, k', hk, I', t', n', w'⟩, _⟩ := hy
        obtain ⟨n2, t2, e2, st⟩ := hst
        cases e2
        obtain ⟨t3, c3, hS3⟩ := st.acc acc tm c (atS I')
        have I'' : Inv Xg ([(h'.objs.size, go)] ++ [(S, listO (.int acc tm) c)]) (wipe σ (own.map (·.2))) H' s' := I'
        have I9 := inv_swap (s' := s'') I'' (.inr (by rw [xs0]; exact s3S)) (fun p hp => by
          rw [xn, List.nil_append, List.mem_singleton] at hp
          rw [hp]
          exact aS) (o' := listO (.int (acc + n) t3) c3) (fun v z => nomatch z) st.heap hS3 st.os st.bare
        refine ⟨k', hk, i, H', acc + n, t3, c3, hS3, I9, T.keep _ _ _ t' fun b hb o e => by rw [st.heap b (fpS b hb)]; exact e, n', w'⟩
  cases hf : codeAmong gpos ps.toList with
  | none =>
    refine wpAny_genexprCodeX hcode (cd.code hPs ht) (cd.tab hPs) hf fun c' h3 tk hx _ _ hco' _ htab' _ => ?_
    obtain ⟨_, _, _, _, _, _, _, _, _, _, _, _, _, _, _, _, _, _, _, htr, _⟩ := hco'
    have k23 : ∀ b o, b ≠ P → s2.heap.get? b = some o → h3.get? b = some o := fun b o hb e => hx b o hb e
    exact cont _ _ _ (inv_tab (g' := s2.gens) (d' := s2.drawn) (t' := tk) I2 hP k23 htab'.2 I2.bare) ⟨⟨_, upd_same, htr⟩, fun b hb => upd_ne hb⟩ k23
  | some cv =>
    refine wpAny_genexprCode_hit hcode (cd.code hPs ht) hf ?_
    exact cont cv s2 H2 I2 ⟨⟨ps, hP, ht⟩, fun _ _ => rfl⟩ fun _ _ _ e => e
end
end GXX
namespace GXX
open PySem PySem.Spec PyProof.Rows L2 GenW GxR
section
variable {X : Cx} {elt tg iter : Expr} {ifs : List Expr} {scope : Scope} {p gpos pos : Pos} {own : List (Str × Nat)} {wi : TI} {g : TG} {tt : TT} {te : TE} {c0 P : Addr} {k : Nat}
/-- sum(elt for tg in iter ..) -/
theorem pe_sumG (hcalm : X.calm = true) (hr : Room k X.A) (hgl : Gl X "sum") (hm : X.mg "sum" = none) (TB : TabB X.base X.mg c0 P) (hcode : X.env.code = .ref c0) (hN : X.N.Nodup) (hi : PI X tg iter wi) (ok : BlkOk X.N X.env.scope scope own)
    (noc : ∀ y ∈ scope.names, y.2 ≠ .cell) (hdot : scope.names.lookup (".0" : Str) = some NameKind.local) (hco : scope.isCoroutine = false)
    (hg : ∀ (s : Shared) (H : Hp) (cl : List (Str × Addr)) (C : Addr) (code : Value) (it : Addr) (fp : List Addr), PG (genCx X s H scope cl C code (genCodeT elt tg iter ifs scope gpos it) fp) tg g)
    (hts : ∀ (s : Shared) (H : Hp) (cl : List (Str × Addr)) (C : Addr) (code : Value) (it : Addr) (fp : List Addr), PGT (genCx X s H scope cl C code (genCodeT elt tg iter ifs scope gpos it) fp) ifs tt)
    (he : ∀ (s : Shared) (H : Hp) (cl : List (Str × Addr)) (C : Addr) (code : Value) (it : Addr) (fp : List Addr), PE (genCx X s H scope cl C code (genCodeT elt tg iter ifs scope gpos it) fp) elt te)
    (hs : ∀ v, genFold iter X.env v = pure v := by intro _; rfl)
    (he0 : starEach [.GeneratorExp elt [⟨tg, iter, ifs, 0⟩] scope gpos] X.env = (false, eval (.GeneratorExp elt [⟨tg, iter, ifs, 0⟩] scope gpos) X.env) :: starEach [] X.env := by rfl) :
    PE X (.Call (.Name "sum" p) [.GeneratorExp elt [⟨tg, iter, ifs, 0⟩] scope gpos] [] pos) (tSum P wi g tt te (own.map (·.2))) := by
  refine ⟨fun pins s σ H Q I h => ?_⟩
  have hb : bootBuiltins "sum" = some (.builtin "sum") := by decide +kernel
  have hdp := hr.dp
  refine wpAny_Call_Name_kw (ld_blt I hgl hm hb ?_)
  refine PyProof.Rows.callWith_builtin1 ?_ he0 (by rfl)
  rw [he0]
  show wpAny _ _ (spliced ((false, eval (.GeneratorExp elt [⟨tg, iter, ifs, 0⟩] scope gpos) X.env) :: backTo pos (starEach [] X.env))) _ _ s
  refine Calls.spliced_cons (gen_madeS hcalm hr.hd (by omega) TB hcode hi ok noc hN hdot hco hg hts he hs I h fun a g0 s5 isg hQ => ?_)
  refine Calls.spliced_nil ?_
  refine call_function_tree F.kind_sum F.plain_sum F.entry_sum (F.args_sum1 _) ?_
  unfold Builtin.sum
  show wpAny _ _ (pyIter (.ref a) >>= _) _ _ _
  refine wpAny_bind (wpAny_pyIter_gen isg ?_)
  show wpAny _ _ (mkInt 0 >>= _) _ _ _
  refine wpAny_bind (wpAny_mkInt ?_)
  show wpAny _ _ (forIn _ PUnit.unit _ >>= _) _ _ _
  have no : ∀ {α : Type} (T : String) (s : Shared) (t : Tok) (f : Bool → Sem α) (Q : α → Shared → Prop) (E : Value → Shared → Prop), (T = "str" ∨ T = "bytes" ∨ T = "bytearray") → wpAny (model X.prog X.w) X.A.in1 (f false) Q E s → wpAny (model X.prog X.w) X.A.in1 (isInstance (.int 0 t) (.type T) >>= f) Q E s := by
    intro α T s t f Q E hT q
    refine wpAny_bind (wpAny_isInstance (T := "int") (b := false) rfl ?_ q)
    rcases hT with rfl | rfl | rfl <;> first | rfl | (with_unfolding_all rfl) | kernel_rfl!
  refine wpAny_bind ?_
  rw [List.forIn_cons]
  refine wpAny_bind (no "str" _ _ _ _ _ (.inl rfl) ?_)
  refine wpAny_pure ?_
  show wpAny _ _ (forIn _ PUnit.unit _) _ _ _
  rw [List.forIn_cons]
  refine wpAny_bind (no "bytes" _ _ _ _ _ (.inr (.inl rfl)) ?_)
  refine wpAny_pure ?_
  show wpAny _ _ (forIn _ PUnit.unit _) _ _ _
  rw [List.forIn_cons]
  refine wpAny_bind (no "bytearray" _ _ _ _ _ (.inr (.inr rfl)) ?_)
  refine wpAny_pure ?_
  show wpAny _ _ (forIn _ PUnit.unit _) _ _ _
  rw [List.forIn_nil]
  refine wpAny_pure ?_
  refine wpAny_bind (wpAny_newList ?_)
  obtain ⟨n, Fn, Yd, aS, hI, hfin, hsl⟩ := hQ s5.heap.objs.size ⟨s5.heap.push (listO (.int 0 s5.toks) 0), s5.gens, s5.drawn, s5.toks + 1, s5.os⟩ s5.toks 0 (Nat.le_refl _) (Heap.get?_push_size _ rfl) (fun b o e => Heap.get?_push_of_some _ e) rfl rfl
  exact wpAny_pure ⟨plainId_quiet F.plain_sum_loop _, sum_loopJ hr.hd (by omega) hI aS hfin n _ ⟨_, _, _, Heap.get?_push_size _ rfl⟩ hsl⟩
end
end GXX
/-! ## sum of a generator expression, by values -/
namespace Z
open PySem PySem.Spec L2 GxR
open PyProof.Rows hiding St
abbrev InL (i : Int) : Prop := -(2 ^ 63) ≤ i ∧ i < 2 ^ 63
theorem inL_long {i : Int} (h : InL i) : InLong i := h
def sumL (vs : List Nat) (g : Tg) (t : Ts) (f : Ex) : Int → List D → S → Res Int
  | acc, [], s => .ok acc s
  | acc, d :: ds, s => (g d (wipeS vs s)).bind fun _ s1 => (t s1).bind fun b s2 => if b = true then ((f s2).bind fun y s3 => match y with
      | .int n => if InL n ∧ InL (acc + n) then sumL vs g t f (acc + n) ds s3 else .stuck
      | _ => .stuck) else sumL vs g t f acc ds s2
def eSum (vs : List Nat) (fi : Is) (g : Tg) (t : Ts) (f : Ex) : Ex := fun s => (fi s).bind fun ds s1 => (sumL vs g t f 0 ds s1).nox.bind fun n s2 => .ok (.int n) (restS vs s1 s2)
section
variable {N : En} {W : WX} {X : Cx} {e tg iter elt : Expr} {es ifs : List Expr}
theorem sim_sumG {P : Addr} {wi : TI} {fi : Is} {g : TG} {fg : Tg} {ts vs : List Nat} {tt : TT} {ft : Ts} {te : TE} {fe : Ex} (hP : P ∈ N.G) (hsub : ∀ σ σ' : St, wipe σ' ts = wipe σ ts → wipe σ' vs = wipe σ vs) (hi : SimI N W wi fi) (hg : SimG N WF g fg ts) (ht : SimT N WF tt ft) (he : SimE N WF te fe) :
    SimE N W (GXX.tSum P wi g tt te vs) (eSum vs fi fg ft fe) := fun M s σ H Q rl q => by
  refine hi M s σ H _ rl ((GoodE.bind q).imp fun M1 H1 ds s1 e1 r1 q1 J st => ⟨r1.tabs P hP, fun H2 tb => ?_⟩)
  have k2 : Same H1 H2 := Same.tabbed (r1.tabs P hP) tb
  have e0 := r1.toRelC.ext k2
  refine ⟨fun i m acc H => i + m = ds.length ∧ ∃ M s τ, Ext M1 H1 M H ∧ Rel N M s τ H ∧ wipe τ vs = wipe σ vs ∧
        GoodS N WF M1 H1 (sumL vs fg ft fe acc (ds.drop i) s) (fun M' H' τ n s2 => Ext M1 H1 M' H' → Rel N M' s2 τ H' → wipe τ vs = wipe σ vs → Q (.int n) H'), ⟨ds.length, Nat.zero_add _, M1, s1, σ, e0, r1.same k2, rfl, ?_⟩, fun i m acc H hW => ?_⟩
  · refine (GoodE.nox q1).imp fun M2 H2 τ b s2 e2 r2 q2 e3 r3 w3 => ?_
    have r4 := r3.wipe vs
    rw [w3] at r4
    exact q2.here (r1.unwipe e3 r4) _ (.int b)
  · obtain ⟨hm, M2, s2, τ, e2, r2, w2, q2⟩ := hW
    obtain ⟨hstop, hgo⟩ := st M2 H _ e2 r2.toRelC i
    cases hdi : ds[i]? with
    | none =>
      have hli : ds.length ≤ i := List.getElem?_eq_none_iff.mp hdi
      refine .inl ⟨hstop hli, ?_⟩
      rw [List.drop_eq_nil_of_le hli] at q2
      exact q2 M2 H τ e2 r2 e2 r2 w2
    | some d =>
      obtain ⟨h1, h2⟩ := hgo d hdi
      have hlt := (List.getElem?_eq_some_iff.mp hdi).1
      rw [drop_get hdi, sumL] at q2
      refine .inr ⟨h1, fun acc H' => (i + 1) + (m - 1) = ds.length ∧ ∃ M s τ, Ext M1 H1 M H' ∧ Rel N M s τ H' ∧ wipe τ vs = wipe σ vs ∧
          GoodS N WF M1 H1 (sumL vs fg ft fe acc (ds.drop (i + 1)) s) (fun M' H' τ n s2 => Ext M1 H1 M' H' → Rel N M' s2 τ H' → wipe τ vs = wipe σ vs → Q (.int n) H'), fun acc H' p => ⟨m - 1, by omega, p⟩, fun x H' y => ?_⟩
      obtain ⟨k, hx⟩ := h2 x H' y
      have e3 := r2.toRelC.ext k
      have e13 := e2.trans e3
      have rw2 := (r2.same k).wipe vs
      rw [w2] at rw2
      refine hg M2 (wipeS vs s2) (wipe σ vs) H' x d _ rw2 hx ((GoodS.rebase q2.bind0 e13).imp fun M4 H4 σ4 _ s4 e4 r4 q4 w4 => ?_)
      have w4' : wipe σ4 vs = wipe σ vs := by rw [hsub _ _ w4, wipe_idem]
      refine ⟨w4', ?_⟩
      refine ht M4 s4 σ4 H4 _ r4 ((GoodS.rebase q4.bind0 (e13.trans e4)).toE.imp fun M5 H5 b s5 e5 r5 q5 => ?_)
      have e15 := (e13.trans e4).trans e5
      refine ⟨fun hb => ?_, fun hb => ?_⟩
      · rw [if_neg (by rw [hb]; decide)] at q5
        exact ⟨by omega, M5, s5, σ4, e15, r5, w4', q5⟩
      · rw [if_pos hb] at q5
        refine he M5 s5 σ4 H5 _ r5 ((GoodS.rebase (GoodS.bind0 q5) e15).toE.imp fun M6 H6 y s6 e6 r6 q6 v6 h6 => ?_)
        have e16 := e15.trans e6
        cases y with
        | int n =>
          cases h6
          have q6 : GoodS N WF M1 H1 (if InL n ∧ InL (acc + n) then sumL vs fg ft fe (acc + n) (ds.drop (i + 1)) s6 else .stuck) _ := q6
          split at q6
          · rename_i hin
            exact ⟨n, rfl, hin.1, hin.2, by omega, M6, s6, σ4, e16, r6, w4', q6⟩
          · exact q6.elim
        | _ => exact q6.elim
def SGT (N : En) (W : WX) (X : Cx) (ifs : List Expr) (f : Ts) : Prop := GXX.PGT X ifs (canT N W f)
theorem sgt_nil : SGT N W X [] Z.tYes := ⟨fun pins s σ H Q I hw => by
  obtain ⟨M, s', r, g⟩ := hw
  exact GXX.pgt_nil.run pins s σ H Q I (g.here r)⟩
theorem sgt_one {c : Expr} {f : Ts} (h : ST N W X c f) : SGT N W X [c] f := GXX.pgt_one h.can
theorem se_sumG {scope : Scope} {own : List (Str × Nat)} {p gpos pos : Pos} {c0 P : Addr} {k : Nat} {fi : Is} {fg : Tg} {ft : Ts} {fe : Ex} {ts : List Nat} (hP : P ∈ N.G) (hcalm : X.calm = true) (hr : Room k X.A) (hgl : Gl X "sum") (hm : X.mg "sum" = none)
    (TB : TabB X.base X.mg c0 P) (hcode : X.env.code = .ref c0) (hN : X.N.Nodup) (hi : SI N W X tg iter fi) (ok : BlkOk X.N X.env.scope scope own)
    (noc : ∀ y ∈ scope.names, y.2 ≠ .cell) (hdot : scope.names.lookup (".0" : Str) = some NameKind.local) (hco : scope.isCoroutine = false)
    (hg : ∀ (s : Shared) (H : Hp) (cl : List (Str × Addr)) (C : Addr) (code : Value) (it : Addr) (fp : List Addr), SG N WF (GXX.genCx X s H scope cl C code (GXX.genCodeT elt tg iter ifs scope gpos it) fp) tg fg ts)
    (ht : ∀ (s : Shared) (H : Hp) (cl : List (Str × Addr)) (C : Addr) (code : Value) (it : Addr) (fp : List Addr), SGT N WF (GXX.genCx X s H scope cl C code (GXX.genCodeT elt tg iter ifs scope gpos it) fp) ifs ft)
    (he : ∀ (s : Shared) (H : Hp) (cl : List (Str × Addr)) (C : Addr) (code : Value) (it : Addr) (fp : List Addr), SE N WF (GXX.genCx X s H scope cl C code (GXX.genCodeT elt tg iter ifs scope gpos it) fp) elt fe)
    (hsub : ts.all (fun i => (own.map (·.2)).contains i) = true := by rfl)
    (hs : ∀ v, genFold iter X.env v = pure v := by intro _; rfl)
    (he0 : starEach [.GeneratorExp elt [⟨tg, iter, ifs, 0⟩] scope gpos] X.env = (false, eval (.GeneratorExp elt [⟨tg, iter, ifs, 0⟩] scope gpos) X.env) :: starEach [] X.env := by rfl) :
    SE N W X (.Call (.Name "sum" p) [.GeneratorExp elt [⟨tg, iter, ifs, 0⟩] scope gpos] [] pos) (eSum (own.map (·.2)) fi fg ft fe) := by
  obtain ⟨ti, pi, si⟩ := hi
  exact ⟨_, GXX.pe_sumG hcalm hr hgl hm TB hcode hN pi ok noc hdot hco (fun s H cl C code it fp => (hg s H cl C code it fp).can) (fun s H cl C code it fp => ht s H cl C code it fp) (fun s H cl C code it fp => (he s H cl C code it fp).can) hs he0, sim_sumG hP (sub_wipe hsub) si sim_canG sim_canT sim_canE⟩
end
end Z
/-! ## enumerate; index; pop -/
namespace Z
open PySem PySem.Spec L2 GxR
open PyProof.Rows hiding St
set_option maxHeartbeats 1000000 in
theorem meets_enum1 {v : Value} {o : Obj} {H : Heap → Prop} (B : Begins v o H) :
    Meets (Builtin.«enumerate.__new__» ⟨[.type "enumerate", v], []⟩) (fun _ R s => H s.heap ∧
      R (.ok (.ret (.ref (s.heap.push o).objs.size))) { s with heap := (s.heap.push o).push { cls := .type "enumerate", data := .fields #[.none, .bool false, .ref s.heap.objs.size, rawInt 0, .none, .none] } }) :=
  .of_wp fun prog w A R s h => by
    obtain ⟨hp, g, d, tk, os⟩ := s; obtain ⟨h1, h⟩ := h
    have hsub := sub_enumerate
    have q1 : ∀ {A' : Around} {E : Value → Shared → Prop} {Q : Value → Shared → Prop}, Q (.ref hp.objs.size) ⟨hp.push o, g, d, tk, os⟩ → wpAny (model prog w) A' (pyIter v) Q E ⟨hp, g, d, tk, os⟩ :=
      fun q => B.iter prog w _ _ ⟨hp, g, d, tk, os⟩ _ h1 q
    wp_walk using q1
    refine wpAny_stack_any fun st => wpAny_pure ?_
    split
    · rename_i c _ _ _ _ _
      cases (c == Value.type "enumerate")
      · wp_walk using q1
        exact ⟨_, rfl, h⟩
      · wp_walk using q1
        exact ⟨_, rfl, h⟩
    · wp_walk using q1
      exact ⟨_, rfl, h⟩
theorem enum1_begins {prog : Program} {w : World} {A : Around} {E : Value → Shared → Prop} {s : Shared} {v : Value} {o : Obj} {H : Heap → Prop} {Q : Value → Shared → Prop} (B : Begins v o H) (h1 : H s.heap)
    (h : ∀ h', IsEnum h' (s.heap.objs.size + 1) s.heap.objs.size 0 .none → h'.get? s.heap.objs.size = some o → h'.objs.size = s.heap.objs.size + 2 →
      (∀ b o, s.heap.get? b = some o → h'.get? b = some o) → Q (.ref (s.heap.objs.size + 1)) { s with heap := h' }) :
    wpAny (model prog w) A (call (.type "enumerate") [v]) Q E s := by
  refine callType_new F.called_enumerate (by decide) (F.typeCall_enumerate_1 _) (F.newCall_enumerate_1 _) (fun obj => F.args_object_init_2 obj _) F.entry_enumerate_new
    (meets_enum1 B) ⟨h1, ?_⟩
  have hz : (s.heap.push o).objs.size = s.heap.objs.size + 1 := Heap.size_push ..
  show _ ∧ _
  rw [hz]
  have he : IsEnum ((s.heap.push o).push { cls := .type "enumerate", data := .fields #[.none, .bool false, .ref s.heap.objs.size, rawInt 0, .none, .none] }) (s.heap.objs.size + 1) s.heap.objs.size 0 .none := by
    have := Heap.get?_push_size (s.heap.push o) (o := { cls := .type "enumerate", data := .fields #[.none, .bool false, .ref s.heap.objs.size, rawInt 0, .none, .none] }) rfl
    rw [hz] at this; exact this
  refine ⟨⟨_, he, rfl⟩, h _ he (Heap.get?_push_of_some _ (Heap.get?_push_size _ B.free)) (by rw [Heap.size_push, hz]) fun b o x => Heap.get?_push_of_some _ (Heap.get?_push_of_some _ x)⟩
theorem enum_endT {prog : Program} {w : World} {A : Around} {E : Value → Shared → Prop} {s : Shared} {e it l : Addr} {i : Nat} {k : Int} {items : Array Value} {old : Value} {Q : Option Value → Shared → Prop} (hh : A.handled = none)
    (he : IsEnum s.heap e it k old) (hit : s.heap.IsTupleIter it l i) (hl : s.heap.IsTuple l items) (hx : items[i]? = none)
    (hQ : ∀ h', Heap.ExtBut it s.heap h' → Q none { s with heap := h' }) : wpAny (model prog w) A (pyNext (.ref e)) Q E s := by
  have hT : s.TypeIs (.ref e) "enumerate" := ⟨_, he, rfl⟩
  unfold pyNext
  refine wpAny_bind (wpAny_attempt (wpAny_callSpecial?_slot (name := Str.ofString "__next__") hT F.slot_enumerate_next
    (wpAny_call_entry F.slot_enumerate_next hT F.entry_enumerate_next ?_ (F.args_enumerate_next_1 _))))
  show wpAny _ _ (field (.ref e) 2 >>= _) _ _ _
  refine wpAny_bind (wpAny_field he rfl (x := .ref it) rfl ?_)
  refine wpAny_bind (wpAny_nextOf_tuple_end hh hit hl hx fun h' x he' hx' => ?_)
  obtain ⟨o, ho, hc⟩ := hx'
  refine wpAny_bind (wpAny_isInstance (T := "StopIteration") (b := true) ⟨o, ho, hc⟩ isSubtype_stop ?_)
  exact wpAny_pure (hQ _ he')
/-- the tuple at a, each item in a new pair -/
def Iten (K : PySem.W.Frag) (a : Addr) : It :=
  ⟨fun i H => ∃ (xs : List V) (x : V), SqT K H a xs ∧ xs[i]? = some x, fun i H v H' => ∃ T x, v = .ref T ∧ H T = none ∧ H' = upd H T (.tup [.int (i : Nat), x]) ∧ ∀ xs, SqT K H a xs → xs[i]? = some x, fun i H => ∃ xs : List V, SqT K H a xs ∧ xs.length ≤ i⟩
theorem turn_enumT {P : Program} {w : World} {K : PySem.W.Frag} {elts : List Expr} {kk : Nat} {tpos : Pos} (a e it : Addr) :
    Turn P w K (.Tuple elts kk tpos) (Iten K a) [e, it] e (fun i h => (∃ old, IsEnum h e it ((i : Nat) : Int) old) ∧ h.IsTupleIter it a i ∧ e ≠ it ∧ a ≠ it ∧ a ≠ e) where
  mem := by simp
  obj := fun i h st b hb => by
    obtain ⟨⟨old, he⟩, ⟨o, ho, hc, hd⟩, _⟩ := st
    have e' : b = e ∨ b = it := by simpa using hb
    rcases e' with z | z
    · rw [z]; exact ⟨_, he, fun v q => nomatch q⟩
    · rw [z]; exact ⟨o, ho, fun v q => by rw [hd] at q; cases q⟩
  keep := fun i h h' st k => let ⟨⟨old, he⟩, hi, hne⟩ := st; ⟨⟨old, k e (by simp) _ he⟩, hi.at fun o q => k it (by simp) o q, hne⟩
  item := by
    intro X hP hw hK hc i pins s σ H E I hf st hg
    subst hP hw hK
    obtain ⟨⟨old, he⟩, hit, hne, hai, hae⟩ := st
    obtain ⟨xs, x, hq, hx⟩ := hg
    obtain ⟨its, rv, p, hz⟩ := I.tuple hq
    obtain ⟨u, hu, ru⟩ := rv.get hx
    have hel : e < s.heap.objs.size := Heap.lt_size he
    have hil : it < s.heap.objs.size := by obtain ⟨_, q, _⟩ := hit; exact Heap.lt_size q
    have hlt : i < its.toArray.size := by
      have := (List.getElem?_eq_some_iff.mp hu).1
      simpa using this
    refine wpAny_pyNext_enum_itemD (Draws.tuple (prog := X.prog) (w := X.w) (A := X.A.in1) (I.ok.hd hc) it a hai its.toArray) he ⟨hit, show s.heap.IsTuple a its.toArray from p⟩ hlt hne (by simp [hne, Ne.symm hae]) fun u' h' tk hx' ho hst' hT hsz hk => ?_
    have hu' : u' = u := by
      have h2 : its.toArray[i]? = some u := by simpa using hu
      rw [h2] at hx'
      exact (Option.some.inj hx').symm
    subst hu'
    refine ⟨_, rfl, wpAny_letOwnedTupleGo_enum (s := { s with heap := h', toks := tk + 1 }) ho fun h'' he' sb => ?_⟩
    have hT2 : h''.get? s.heap.objs.size = some { cls := .type "tuple", data := .seq #[.int i tk, u'] } := (sb.2 _ (Nat.ne_of_gt hel)).trans hT
    have new : ObjOk X.prog X.w (upd H s.heap.objs.size (.tup [.int (i : Nat), x])) h'' s.heap.objs.size (.tup [.int (i : Nat), x]) :=
      ⟨by show 2 ≤ sizeLine; decide, [.int i tk, u'], .cons ⟨_, rfl⟩ (.cons ru .nil), ⟨_, hT2, rfl, _, rfl⟩⟩
    have I1 : Inv X pins σ (upd H s.heap.objs.size (.tup [.int (i : Nat), x])) { s with heap := h'', toks := tk + 1 } :=
      I.turnedNew (ch := [e, it]) (fun b ob hb q => (sb.2 b (fun z => hb (by simp [z]))).trans (hk b ob (fun z => hb (by simp [z])) (fun z => hb (by simp [z])) q)) hf (Nat.le_refl _) new
    refine ⟨.ref s.heap.objs.size, _, I1, rfl, ⟨_, x, rfl, I.hok.fresh (Nat.le_refl _), rfl, fun ys hy => by rw [I.tuple_inj hy hq]; exact hx⟩, ⟨⟨u', ?_⟩, hst'.1.at fun o q => (sb.2 it (Ne.symm hne)).trans q, hne, hai, hae⟩, fun b hb => ?_⟩
    · have e1 : ((i + 1 : Nat) : Int) = (i : Int) + 1 := by omega
      rw [e1]; exact he'
    · have hb' : b < s.heap.objs.size := by
        have e' : b = e ∨ b = it := by simpa using hb
        rcases e' with z | z
        · rw [z]; exact hel
        · rw [z]; exact hil
      rw [upd_ne (Nat.ne_of_lt hb')]
      exact (hf b hb).1
  done := by
    intro X hP hw hK hc i pins s σ H E I hf st hg
    subst hP hw hK
    obtain ⟨⟨old, he⟩, hit, hne, hai, hae⟩ := st
    obtain ⟨xs, hq, hx⟩ := hg
    obtain ⟨its, rv, p, hz⟩ := I.tuple hq
    obtain ⟨f0, f1, f2, f3, f4, f5⟩ := hf it (by simp)
    have hl := rv.length
    exact enum_endT (I.ok.hd hc) he hit (show s.heap.IsTuple a its.toArray from p) (by simp; omega) fun h' eb => ⟨rfl, I.turned (t' := s.toks) (fun b o hb q => eb b o hb q) f0 f1 f3 f4 f5⟩
  self := fun A i s Q E st h => let ⟨⟨_, he⟩, _⟩ := st; wpAny_pyIter_enum he h
/-- enumerate of a list or a tuple -/
theorem pi_enumG {X : Cx} {e : Expr} {ta : TE} {p pos tpos : Pos} {elts : List Expr} {kk : Nat} (hg : Gl X "enumerate") (hm : X.mg "enumerate" = none) (ha : PE X e ta) (hs : starEach [e] X.env = (false, eval e X.env) :: starEach [] X.env := by rfl) :
    PI X (.Tuple elts kk tpos) (.Call (.Name "enumerate" p) [e] [] pos) (fun σ H R => tCons ta tNil σ H fun vs H1 => ∃ a, vs = [.ref a] ∧ (((∃ xs, SqL X.K H1 a xs) ∧ R (Ite X.K a) H1) ∨ ((∃ xs, SqT X.K H1 a xs) ∧ R (Iten X.K a) H1))) := by
  refine ⟨fun pins s σ H R I h => ?_⟩
  refine Call_ (ld_blt I hg hm boot_enumerate (PyProof.Rows.callWith_type1 (thn ((pa_cons ha pa_nil hs).run pos pins s σ H _ I h) fun us s1 ⟨vs, H1, I1, r1, q1⟩ => ?_) (by exact hs) rfl))
  obtain ⟨a, ex, q⟩ := q1
  subst ex
  cases r1 with
  | cons r rr =>
    cases rr
    cases r
    rcases q with ⟨⟨xs, hq⟩, q⟩ | ⟨⟨xs, hq⟩, q⟩
    · obtain ⟨its, rv, p', hz⟩ := I1.list hq
      refine call_enumerate_list p'.isList fun h' he hit hsz hk => wpAny_pyIter_enum he ?_
      have I2 : Inv X pins σ H1 { s1 with heap := h' } := I1.kept (t' := s1.toks) hk
      refine ⟨s1.heap.objs.size + 1, [s1.heap.objs.size + 1, s1.heap.objs.size], _, _, H1, rfl, I2, turn_enum a (s1.heap.objs.size + 1) s1.heap.objs.size, ⟨⟨.none, he⟩, hit, Nat.succ_ne_self _⟩, fun b hb => ?_, q⟩
      have e' : b = s1.heap.objs.size + 1 ∨ b = s1.heap.objs.size := by simpa using hb
      have hle : s1.heap.objs.size ≤ b := by
        rcases e' with z | z
        · rw [z]; exact Nat.le_add_right _ _
        · rw [z]; exact Nat.le_refl _
      exact I1.fpOk hle (I1.hok.fresh hle)
    · obtain ⟨its, rv, p', hz⟩ := I1.tuple hq
      have al : a < s1.heap.objs.size := by obtain ⟨_, q, _⟩ := p'; exact Heap.lt_size q
      refine enum1_begins (begins_tuple a its.toArray) (show s1.heap.IsTuple a its.toArray from p') fun h' he hit hsz hk => wpAny_pyIter_enum he ?_
      have I2 : Inv X pins σ H1 { s1 with heap := h' } := I1.kept (t' := s1.toks) hk
      refine ⟨s1.heap.objs.size + 1, [s1.heap.objs.size + 1, s1.heap.objs.size], _, _, H1, rfl, I2, turn_enumT a (s1.heap.objs.size + 1) s1.heap.objs.size, ⟨⟨.none, he⟩, ⟨_, hit, rfl, rfl⟩, Nat.succ_ne_self _, Nat.ne_of_lt al, Nat.ne_of_lt (Nat.lt_succ_of_lt al)⟩, fun b hb => ?_, q⟩
      have e' : b = s1.heap.objs.size + 1 ∨ b = s1.heap.objs.size := by simpa using hb
      have hle : s1.heap.objs.size ≤ b := by
        rcases e' with z | z
        · rw [z]; exact Nat.le_add_right _ _
        · rw [z]; exact Nat.le_refl _
      exact I1.fpOk hle (I1.hok.fresh hle)
def enD : Nat → List D → List D
  | _, [] => []
  | i, d :: l => .tup [.int (i : Nat), d] :: enD (i + 1) l
theorem enD_len : ∀ (k : Nat) (l : List D), (enD k l).length = l.length
  | _, [] => rfl
  | k, _ :: l => by rw [enD, List.length_cons, List.length_cons, enD_len (k + 1) l]
theorem enD_get : ∀ (k : Nat) (l : List D) (i : Nat), (enD k l)[i]? = (l[i]?).map fun d => D.tup [.int ((k + i : Nat) : Int), d]
  | _, [], _ => by simp [enD]
  | _, _ :: _, 0 => by simp [enD]
  | k, _ :: l, i + 1 => by
    rw [enD, List.getElem?_cons_succ, List.getElem?_cons_succ, enD_get (k + 1) l i]
    have e : k + 1 + i = k + (i + 1) := by omega
    rw [e]
def iEnumerate (f : Ex) : Is := fun s => (f s).bind fun x s1 => match x with
  | .tup l => .ok (enD 0 l) s1
  | .lst l => .ok (enD 0 l) s1
  | _ => .stuck
section
variable {N : En} {W : WX} {X : Cx} {M : MM} {H : Hp} {e : Expr} {fe : Ex}
theorem pair_in {cs : List Cell} {M2 : MM} {H2 : Hp} {T : Addr} {i : Nat} {x : V} {d : D} (rc : RelC N M2 cs H2) (hT : H2 T = none) (r : R N.K M2 H2 x d) :
    Same H2 (upd H2 T (.tup [.int (i : Nat), x])) ∧ R N.K M2 (upd H2 T (.tup [.int (i : Nat), x])) (.ref T) (.tup [.int (i : Nat), d]) := by
  have sm : Same H2 (upd H2 T (.tup [.int (i : Nat), x])) := Same.upd hT
  exact ⟨sm, .tup (.inl ⟨rc.fresh hT, .inl (upd_same ..)⟩) (.cons (.int _) (.cons ((rc.ext sm).r r) .nil))⟩
theorem steps_enumL {a : Addr} {xs : List V} {l : List D} (m : M a = none) (h : H a = some (.lst xs)) (q : RA N.K M H xs l) : Steps N M H (Ite N.K a) (enD 0 l) := fun M2 H2 cs e rc i => by
  obtain ⟨h2, m2⟩ := e.keep a _ h m (fun _ z => nomatch z)
  refine ⟨fun hl => ⟨xs, .of h2, by rw [q.length]; rw [enD_len] at hl; exact hl⟩, fun d hd => ?_⟩
  rw [enD_get, Option.map_eq_some_iff] at hd
  obtain ⟨d0, hd, rfl⟩ := hd
  obtain ⟨v, k1, k2⟩ := (e.ra q).get hd
  refine ⟨⟨xs, v, .of h2, k1⟩, fun x H' y => ?_⟩
  obtain ⟨T, x', rfl, hT, rfl, y⟩ := y
  have := y xs (.of h2)
  rw [k1] at this
  cases this
  have e0 : ((0 + i : Nat) : Int) = (i : Nat) := by simp
  rw [e0]
  exact pair_in rc hT k2
theorem steps_enumT {a : Addr} {xs : List V} {l : List D} (h : StT N.K M H a xs) (q : RA N.K M H xs l) : Steps N M H (Iten N.K a) (enD 0 l) := fun M2 H2 cs e rc i => by
  have h2 := (e.toExt0.stt h).sq
  refine ⟨fun hl => ⟨xs, h2, by rw [q.length]; rw [enD_len] at hl; exact hl⟩, fun d hd => ?_⟩
  rw [enD_get, Option.map_eq_some_iff] at hd
  obtain ⟨d0, hd, rfl⟩ := hd
  obtain ⟨v, k1, k2⟩ := (e.ra q).get hd
  refine ⟨⟨xs, v, h2, k1⟩, fun x H' y => ?_⟩
  obtain ⟨T, x', rfl, hT, rfl, y⟩ := y
  have := y xs h2
  rw [k1] at this
  cases this
  have e0 : ((0 + i : Nat) : Int) = (i : Nat) := by simp
  rw [e0]
  exact pair_in rc hT k2
theorem si_enumerate {p pos tpos : Pos} {elts : List Expr} {kk : Nat} (hK : X.K = N.K) (hg : Gl X "enumerate") (hm : X.mg "enumerate" = none) (h : SE N W X e fe)
    (hs : starEach [e] X.env = (false, eval e X.env) :: starEach [] X.env := by rfl) : SI N W X (.Tuple elts kk tpos) (.Call (.Name "enumerate" p) [e] [] pos) (iEnumerate fe) := by
  obtain ⟨t, pt, h⟩ := h
  refine ⟨_, pi_enumG hg hm pt hs, fun M s σ H Q rl q => h M s σ H _ rl (q.bind.imp fun M1 H1 x s1 e1 r1 q1 v h1 => ?_)⟩
  split at q1
  · cases h1 with
    | tup h2 h3 => exact ⟨_, rfl, .inr ⟨⟨_, hK ▸ h2.sq⟩, by rw [hK]; exact q1.here r1 _ (steps_enumT h2 h3)⟩⟩
  · cases h1 with
    | lst m h2 h3 => exact ⟨_, rfl, .inl ⟨⟨_, .of h2⟩, by rw [hK]; exact q1.here r1 _ (steps_enumL m h2 h3)⟩⟩
  · exact q1.elim
end
end Z
/-! ## index, pop -/
namespace Z
open PySem PySem.Spec L2 GxR
open PyProof.Rows hiding St
def flatD : D → Bool
  | .non => true
  | .bl _ => true
  | .int _ => true
  | .str n => decide (n < 70)
  | _ => false
def idxD (x : D) (y : D) : Option D := match x with
  | .lst l => if flatD y && l.all flatD && (l.any fun z => eqD z y) && decide (l.length ≤ 100000) then some (.int ((l.map fun z => eqD z y).idxOf true : Nat)) else none
  | _ => none
theorem flat_R {K : PySem.W.Frag} {M : MM} {H : Hp} {v : V} {d : D} (h : R K M H v d) (f : flatD d = true) : flatV v = true := by
  cases h <;> first | rfl | (simp [flatD] at f)
theorem flat_eq {K : PySem.W.Frag} {M : MM} {H : Hp} {v u : V} {d e : D} (h : R K M H v d) (h' : R K M H u e) (f : flatD d = true) (f' : flatD e = true) : eqV v u = eqD d e := by
  cases h <;> first | (simp [flatD] at f; done) | skip
  all_goals cases h' <;> first | (simp [flatD] at f'; done) | skip
  all_goals first | rfl | skip
  all_goals simp only [eqV, eqD]
  all_goals rename_i n h1 m h2
  all_goals rw [Bool.eq_iff_iff]
  all_goals simp [txt_inj h1 h2]
theorem flat_all {K : PySem.W.Frag} {M : MM} {H : Hp} : ∀ {xs : List V} {l : List D}, RA K M H xs l → l.all flatD = true → xs.all flatV = true
  | _, _, .nil, _ => rfl
  | _, _, .cons h t, f => by
    rw [List.all_cons, Bool.and_eq_true] at f
    rw [List.all_cons, flat_R h f.1, flat_all t f.2]
    rfl
theorem flat_map {K : PySem.W.Frag} {M : MM} {H : Hp} {u : V} {e : D} (h' : R K M H u e) (f' : flatD e = true) : ∀ {xs : List V} {l : List D}, RA K M H xs l → l.all flatD = true → (xs.map fun z => eqV z u) = l.map fun z => eqD z e
  | _, _, .nil, _ => rfl
  | _, _, .cons h t, f => by
    rw [List.all_cons, Bool.and_eq_true] at f
    rw [List.map_cons, List.map_cons, flat_eq h h' f.1 f', flat_map h' f' t f.2]
def rIdxL (K : PySem.W.Frag) : V → List V → Hp → VK → Prop := fun x xs H Q => ∃ (a : Addr) (ys : List V) (y : V), x = .ref a ∧ xs = [y] ∧ SqL K H a ys ∧ ys.length ≤ sizeLine ∧ flatV y = true ∧ ys.all flatV = true ∧ true ∈ (ys.map fun z => eqV z y) ∧ Q (.int ((ys.map fun z => eqV z y).idxOf true : Nat)) H
theorem items_eq {A : Around} {s : Shared} {y : V} {u : Value} (ry : RelV y u) (fy : flatV y = true) {ys : List V} {vs : List Value} (rv : Vals ys vs) (f : ys.all flatV = true) : SeqAt.ItemsEq A s vs (ys.map fun z => eqV z y) u true := by
  refine ⟨by rw [List.length_map, rv.length], fun j h1 h2 => ?_⟩
  have h3 : j < ys.length := by rw [List.length_map] at h2; exact h2
  obtain ⟨w, hw, rw'⟩ := rv.get (List.getElem?_eq_getElem h3)
  have e : vs[j] = w := by
    rw [List.getElem?_eq_getElem h1] at hw
    exact Option.some.inj hw
  rw [e]
  have := eqAt_V (A := A) (s := s) rw' ry (flat_at f (List.getElem?_eq_getElem h3)) fy
  have e2 : decide ((ys.map fun z => eqV z y)[j] = true) = eqV ys[j] y := by
    rw [List.getElem_map]
    cases eqV ys[j] y <;> rfl
  rw [e2]
  exact this
section
variable {X : Cx}
theorem mt_idxL : MtR X "list.index" (rIdxL X.K) := by
  intro pins s σ H x xs v us Q I rx rxs h
  obtain ⟨a, ys, y, rfl, rfl, hs, hz, fy, fys, hm, q⟩ := h
  cases rx
  obtain ⟨u, rfl, ry⟩ := rxs.one
  obtain ⟨its, rv, p, _⟩ := I.list hs
  exact SeqAt.call_list_index p.isList (items_eq ry fy rv fys) (by rw [List.length_map]; exact hz) hm ⟨.int ((ys.map fun z => eqV z y).idxOf true : Nat), H, I.tok _, ⟨_, rfl⟩, q⟩
end
section
variable {N : En} {W : WX} {X : Cx} {o e : Expr} {fo fe : Ex} {apos cpos : Pos}
def eIdx (fo fe : Ex) : Ex := fun s => (fo s).bind fun x s1 => match x with
  | .lst l => (fe s1).bind fun y s2 => lift (idxD (.lst l) y) s2
  | _ => .stuck
theorem mem_map_any {l : List D} {y : D} (h : (l.any fun z => eqD z y) = true) : true ∈ l.map fun z => eqD z y := by
  obtain ⟨z, hz, e⟩ := List.any_eq_true.mp h
  exact List.mem_map.mpr ⟨z, hz, e⟩
theorem se_index (hK : X.K = N.K) (ho : SE N W X o fo) (he : SE N W X e fe)
    (hbase : attributeBase o "index" X.env (eval o X.env) = eval o X.env := by rfl)
    (hfew : ((backTo cpos (starEach [e] X.env)).all (fun x => !x.1) && (backToKw cpos (keywordEach [] X.env)).all (fun x => x.1.isSome) && decide ([e].length + ([] : List Keyword).length + (if ([] : List Keyword).isEmpty then 0 else 1) < 30)) = true := by rfl)
    (hline : (apos.endLine == cpos.line) = true := by rfl) (hs : starEach [e] X.env = (false, eval e X.env) :: starEach [] X.env := by rfl) (hplain : (backTo cpos (starEach [] X.env)).any (·.1) = false := by rfl) :
    SE N W X (.Call (.Attribute o "index" apos) [e] [] cpos) (eIdx fo fe) := by
  obtain ⟨t, pt, ho⟩ := ho
  obtain ⟨u, pu, he⟩ := he
  refine ⟨_, pe_bm PySem.F.plainAttrs_list PySem.F.slot_list_index PySem.F.type_list_index mt_idxL pt (pa_cons pu pa_nil hs) hbase hfew hline hs hplain, fun M s σ H Q rl q => ?_⟩
  refine ho M s σ H _ rl (q.bind.imp fun M1 H1 x s1 e1 r1 q1 v hv => ?_)
  split at q1
  · cases hv with
    | lst m h2 h3 =>
      rename_i l a xs
      refine ⟨.inl ⟨rfl, _, .of h2⟩, he M1 s1 σ H1 _ r1 (q1.bind.imp fun M2 H2 y s2 e2 r2 q2 w hw => ?_)⟩
      obtain ⟨z, hz, q3⟩ := q2.lift r2
      unfold idxD at hz
      simp only at hz
      split at hz
      · rename_i hc
        cases hz
        simp only [Bool.and_eq_true, decide_eq_true_eq] at hc
        obtain ⟨⟨⟨c1, c2⟩, c3⟩, c4⟩ := hc
        obtain ⟨k1, k2⟩ := e2.keep _ _ h2 m (fun _ z => nomatch z)
        have h4 := e2.ra h3
        have em := flat_map hw c1 h4 c2
        refine ⟨a, xs, w, rfl, rfl, hK ▸ .of k1, len_line (by rw [h4.length]; exact c4), flat_R hw c1, flat_all h4 c2, by rw [em]; exact mem_map_any c3, ?_⟩
        rw [em]
        exact q3 _ (.int _)
      · cases hz
  · exact q1.elim
def popI (l : List D) (k : Int) : Option (Nat × D) := if -(2 ^ 63) ≤ k ∧ k < 2 ^ 63 then (seqIndex? k l.length).bind fun j => (l[j]?).map fun d => (j, d) else none
def ePop (i : Nat) (f : Ex) : Ex := fun s => match s.ρ[i]? with
  | some (.own _) => (f s).bind fun x s1 => (match s1.ρ[i]?, x with
    | some (.own l), .int k => (match popI l k with
      | some (j, d) => .ok d { s1 with ρ := s1.ρ.set i (.own (l.eraseIdx j)) }
      | none => .stuck)
    | _, _ => .stuck)
  | _ => .stuck
theorem se_pop {i : Nat} (po : PE X o (tVar i)) (he : SE N W X e fe)
    (hbase : attributeBase o "pop" X.env (eval o X.env) = eval o X.env := by rfl)
    (hfew : ((backTo cpos (starEach [e] X.env)).all (fun x => !x.1) && (backToKw cpos (keywordEach [] X.env)).all (fun x => x.1.isSome) && decide ([e].length + ([] : List Keyword).length + (if ([] : List Keyword).isEmpty then 0 else 1) < 30)) = true := by rfl)
    (hline : (apos.endLine == cpos.line) = true := by rfl) (hs : starEach [e] X.env = (false, eval e X.env) :: starEach [] X.env := by rfl) (hplain : (backTo cpos (starEach [] X.env)).any (·.1) = false := by rfl) :
    SE N W X (.Call (.Attribute o "pop" apos) [e] [] cpos) (ePop i fe) := by
  obtain ⟨t, pt, h⟩ := he
  refine ⟨_, pe_bm PySem.F.plainAttrs_list PySem.F.slot_list_pop PySem.F.type_list_pop mt_popAt po (pa_cons pt pa_nil hs) hbase hfew hline hs hplain, fun M s σ H Q rl q => ?_⟩
  unfold ePop at q
  split at q
  · rename_i l0 h0
    obtain ⟨a, xs, k1, m, k2, k3⟩ := rl.own i l0 h0
    refine ⟨_, k1, .inl ⟨rfl, xs, .of k2⟩, ?_⟩
    refine h M s σ H _ rl (q.bind.imp fun M1 H1 d s1 e1 r1 q1 v hv => ?_)
    split at q1
    · rename_i l k h1
      split at q1
      · rename_i j d hp
        unfold popI at hp
        split at hp
        · rename_i hk
          obtain ⟨j', hj, hd⟩ := Option.bind_eq_some_iff.mp hp
          obtain ⟨d', hd, he⟩ := Option.map_eq_some_iff.mp hd
          cases he
          obtain ⟨b, ys, j1, m1, j2, j3⟩ := r1.own i l h1
          rw [k1] at j1
          cases j1
          cases hv
          obtain ⟨y, hy, hR⟩ := j3.get hd
          refine ⟨a, ys, k, j, y, rfl, rfl, j2, hk.1, hk.2, by rw [j3.length]; exact hj, hy, ?_⟩
          have ex := ext_upd (xs := ys.eraseIdx j) r1.toRelC m1
          exact q1.at ex (r1.updL ⟨l, h1⟩ k1 m1 (j3.eraseIdx j)) y (ex.r hR)
        · cases hp
      · exact q1.elim
    · exact q1.elim
  · exact q.elim
end
end Z
/-! ## bits; a tuple none or one time -/
namespace Z
open PySem PySem.Spec L2 GxR
open PyProof.Rows hiding St
def andD : D → D → Option D
  | .int i, .int j => some (.int (Builtin.bitAnd i j))
  | _, _ => none
def shlD : D → D → Option D
  | .int i, .int j => if 0 ≤ j ∧ j ≤ 1000000 ∧ i.natAbs < 2 ^ 64 then some (.int (i * 2 ^ j.toNat)) else none
  | _, _ => none
def mul01 : D → D → Option D
  | .tup a, .int j => if a = [] then none else if j = 1 then some (.tup a) else if j = 0 then some (.tup []) else none
  | _, _ => none
section
variable {N : En}
theorem sim_and : OpSim N (rI0 fun i j => .int (Builtin.bitAnd i j)) andD := by
  intro M H cs x y d e z Q rc hx hy hg q
  unfold andD at hg
  split at hg
  · cases hg
    exact ⟨_, _, hx.int, hy.int, q _ _ (Same.refl _) (.int _)⟩
  · cases hg
theorem sim_shl : OpSim N (rI CPow fun i j => .int (i * 2 ^ j.toNat)) shlD := by
  intro M H cs x y d e z Q rc hx hy hg q
  unfold shlD at hg
  split at hg
  · split at hg
    · rename_i hc
      cases hg
      exact ⟨_, _, hx.int, hy.int, hc, q _ _ (Same.refl _) (.int _)⟩
    · cases hg
  · cases hg
end
section
open AutoSeq1
theorem tuple_mul1 (l : Addr) (items : Array Value) (n : Nat) (dd : Option Addr) (sl : Array (Option Value)) (u : Tok) :
    Meets (Builtin.«tuple.__mul__» ⟨[.ref l, .int 1 u], []⟩) (fun _ R s => s.heap.get? l = some { cls := .type "tuple", dict := dd, data := .seq items n, slots := sl } ∧ R (.ok (.ret (Value.ref l))) s) :=
  .of_wp fun prog w A R s h => by
    obtain ⟨hp, g, d, tk, os⟩ := s
    obtain ⟨hl, h⟩ := h
    have f1 := AutoSeq1.idx_int
    have c1 : (items.isEmpty || (1 : Int) == 1) = true := by simp
    wp_walk using wpAny_loadPart' hl
    repeat (first
      | (refine wpAny_ite_false (by decide) ?_; wp_walk using wpAny_loadPart' hl)
      | (refine wpAny_ite_true c1 ?_; wp_walk using wpAny_loadPart' hl)
      | (rw [if_pos c1]; wp_walk using wpAny_loadPart' hl))
    exact ⟨_, rfl, h⟩
theorem tuple_mul0 (l : Addr) (items : Array Value) (n : Nat) (dd : Option Addr) (sl : Array (Option Value)) (u : Tok) (hne : items.isEmpty = false) :
    Meets (Builtin.«tuple.__mul__» ⟨[.ref l, .int 0 u], []⟩) (fun _ R s => s.heap.get? l = some { cls := .type "tuple", dict := dd, data := .seq items n, slots := sl } ∧
      R (.ok (.ret (Value.ref s.heap.objs.size))) { s with heap := s.heap.push { cls := Value.type "tuple", data := Data.seq #[] }, toks := s.toks }) :=
  .of_wp fun prog w A R s h => by
    obtain ⟨hp, g, d, tk, os⟩ := s
    obtain ⟨hl, h⟩ := h
    have f1 := AutoSeq1.idx_int
    have c1 : (items.isEmpty || (0 : Int) == 1) = false := by simp [hne]
    have c2 : (decide ((0 : Int) ≤ 0) || items.isEmpty) = true := by simp
    wp_walk using wpAny_loadPart' hl
    repeat (first
      | (refine wpAny_ite_false (by decide) ?_; wp_walk using wpAny_loadPart' hl)
      | (refine wpAny_ite_false (decide_eq_false (by rw [c1]; exact Bool.false_ne_true)) ?_; wp_walk using wpAny_loadPart' hl)
      | (refine wpAny_ite_true c2 ?_; wp_walk using wpAny_loadPart' hl)
      | (rw [if_pos c2]; wp_walk using wpAny_loadPart' hl))
    exact ⟨_, rfl, h⟩
end
def rRep01 (K : PySem.W.Frag) : R2 := fun x y H Q => ∃ l k xs, x = .ref l ∧ y = .int k ∧ SqT K H l xs ∧ xs ≠ [] ∧ ((k = 1 ∧ Q (.ref l) H) ∨ (k = 0 ∧ ∀ p, H p = none → Q (.ref p) (upd H p (.tup []))))
section
variable {X : Cx} {N : En} {W : WX} {a b : Expr} {fa fb : Ex} {pos : Pos}
theorem op_rep01 : OpR X (binaryOp .Mult) (rRep01 X.K) := by
  intro pins s σ H x y v u Q I rx ry h
  obtain ⟨l, k, xs, rfl, rfl, hT, hne, q⟩ := h
  cases rx
  obtain ⟨t, rfl⟩ := ry
  obtain ⟨its, r, ⟨⟨cls, dd, data, sl⟩, ho, hc, n, hd⟩, hs⟩ := I.tuple hT
  simp only at hc hd
  subst hc hd
  have hle : its.length = xs.length := r.length.symm
  have hn : its ≠ [] := fun e => hne (by
    rw [e] at hle
    exact List.eq_nil_of_length_eq_zero hle.symm)
  have hi : its.toArray.isEmpty = false := by
    cases its with
    | nil => exact absurd rfl hn
    | cons a b => rfl
  rcases q with ⟨rfl, q⟩ | ⟨rfl, q⟩
  · exact wpAny_binaryOp_repeat_ref (T := "tuple") (U := "int") (by decide) ⟨_, ho, rfl⟩ (fun s' => typeIs_int s' 1 t) noFill_tuple_mul F.fills_int_mul F.slot_int_rmul repeat_tuple F.slot_int_index.lookup
      (call_meets F.slot_int_rmul (typeIs_int s 1 t) F.entry_int_rmul (F.args_int_rmul_2 _ _) (int_rmul_tuple 1 t l its.toArray n dd sl)
        ⟨ho, rfl, ⟨_, ho, rfl⟩, call_meets F.slot_tuple_mul ⟨_, ho, rfl⟩ F.entry_tuple_mul (F.args_tuple_mul_2 _ _) (tuple_mul1 l its.toArray n dd sl t) ⟨ho, ⟨.ref l, H, I, rfl, q⟩⟩⟩)
  · refine wpAny_binaryOp_repeat_ref (T := "tuple") (U := "int") (by decide) ⟨_, ho, rfl⟩ (fun s' => typeIs_int s' 0 t) noFill_tuple_mul F.fills_int_mul F.slot_int_rmul repeat_tuple F.slot_int_index.lookup
      (call_meets F.slot_int_rmul (typeIs_int s 0 t) F.entry_int_rmul (F.args_int_rmul_2 _ _) (int_rmul_tuple 0 t l its.toArray n dd sl)
        ⟨ho, rfl, ⟨_, ho, rfl⟩, call_meets F.slot_tuple_mul ⟨_, ho, rfl⟩ F.entry_tuple_mul (F.args_tuple_mul_2 _ _) (tuple_mul0 l its.toArray n dd sl t hi) ⟨ho, ?_⟩⟩)
    refine ⟨.ref s.heap.objs.size, _, I.laid (t' := s.toks) (o := .tup []) (fun b ob q => Heap.get?_push_of_some _ q) (Nat.le_refl _) ?_, rfl, q _ (I.hok.fresh (Nat.le_refl _))⟩
    exact ⟨by rw [sizeLine_eq]; decide, [], .nil, IsTup.new _ _⟩
theorem sim_mul01 : OpSim N (rRep01 N.K) mul01 := by
  intro M H cs x y d e z Q rc hx hy hg q
  unfold mul01 at hg
  split at hg
  · split at hg
    · cases hg
    · rename_i hne
      obtain ⟨a, xs, rfl, h1, h2⟩ := hx.tup
      have e2 := hy.int
      subst e2
      refine ⟨a, _, xs, rfl, rfl, h1.sq, fun z => hne (h2.nil_iff.mp z), ?_⟩
      split at hg
      · rename_i hj
        cases hg
        exact .inl ⟨hj, q _ _ (Same.refl _) (.tup h1 h2)⟩
      · split at hg
        · rename_i hj
          cases hg
          exact .inr ⟨hj, fun p np => q _ _ (Same.upd np) (rc.newTup np .nil)⟩
        · cases hg
  · cases hg
theorem se_mul01 (ha : SE N W X a fa) (hb : SB N W X b fb) (hK : X.K = N.K := by rfl) : SE N W X (.BinOp a .Mult b pos) (eOp mul01 fa fb) := se_op (hK ▸ op_rep01) sim_mul01 ha hb
theorem se_band (ha : SE N W X a fa) (hb : SB N W X b fb) : SE N W X (.BinOp a .BitAnd b pos) (eOp andD fa fb) := se_op op_and sim_and ha hb
theorem se_shl (ha : SE N W X a fa) (hb : SB N W X b fb) : SE N W X (.BinOp a .LShift b pos) (eOp shlD fa fb) := se_op op_shl sim_shl ha hb
@[simp] theorem x_andD (i j : Int) : andD (.int i) (.int j) = some (.int (Builtin.bitAnd i j)) := Eq.trans rfl rfl
@[simp] theorem x_shlD (i j : Int) : shlD (.int i) (.int j) = if 0 ≤ j ∧ j ≤ 1000000 ∧ i.natAbs < 2 ^ 64 then some (.int (i * 2 ^ j.toNat)) else none := Eq.trans rfl rfl
@[simp] theorem x_mul01 (a : List D) (j : Int) : mul01 (.tup a) (.int j) = if a = [] then none else if j = 1 then some (.tup a) else if j = 0 then some (.tup []) else none := Eq.trans rfl rfl
end
end Z
/-! ## sorted, of integers -/
namespace Z
open PySem PySem.Spec L2 GxR
open PyProof.Rows hiding St
def intsOf : List D → Option (List Int)
  | [] => some []
  | .int i :: l => (intsOf l).map (i :: ·)
  | _ :: _ => none
theorem intsOf_map (l : List Int) : intsOf (l.map D.int) = some l := by
  induction l with
  | nil => rfl
  | cons x l ih => rw [List.map_cons, intsOf, ih]; rfl
theorem intsOf_of : ∀ {l : List D} {ns : List Int}, intsOf l = some ns → l = ns.map D.int
  | [], ns, h => by cases h; rfl
  | .int i :: l, ns, h => by
    rw [intsOf] at h
    obtain ⟨m, h1, rfl⟩ := Option.map_eq_some_iff.mp h
    rw [intsOf_of h1, List.map_cons]
  | .non :: _, _, h => by cases h
  | .bl _ :: _, _, h => by cases h
  | .str _ :: _, _, h => by cases h
  | .tup _ :: _, _, h => by cases h
  | .lst _ :: _, _, h => by cases h
  | .cell _ :: _, _, h => by cases h
  | .scr _ :: _, _, h => by cases h
  | .rng _ _ :: _, _, h => by cases h
  | .fn _ :: _, _, h => by cases h
  | .dic _ :: _, _, h => by cases h
  | .ft _ :: _, _, h => by cases h
theorem ra_ints {K : PySem.W.Frag} {M : MM} {H : Hp} : ∀ {xs : List V} {ns : List Int}, RA K M H xs (ns.map D.int) → xs = ns.map V.int
  | _, [], h => by cases h; rfl
  | _, n :: ns, h => by
    rw [List.map_cons] at h
    cases h with
    | cons h1 h2 =>
      cases h1
      rw [List.map_cons, ra_ints h2]
def sortZ (ns : List Int) : List Int := ns.mergeSort fun a b => decide (a ≤ b)
theorem sortZ_perm (ns : List Int) : (sortZ ns).Perm ns := List.mergeSort_perm _ _
theorem sortZ_sorted (ns : List Int) : (sortZ ns).Pairwise (· ≤ ·) := by
  have := List.pairwise_mergeSort (le := fun a b : Int => decide (a ≤ b)) (fun a b c h1 h2 => by simp at h1 h2 ⊢; omega) (fun a b => by simp; omega) ns
  exact this.imp fun h => by simpa using h
theorem sortZ_unique {ns ms : List Int} (hp : ms.Perm ns) (hs : ms.Pairwise (· ≤ ·)) : ms = sortZ ns :=
  List.Perm.eq_of_pairwise (le := fun a b => a ≤ b) (fun a b _ _ h1 h2 => Int.le_antisymm h1 h2) hs (sortZ_sorted ns) (hp.trans (sortZ_perm ns).symm)
def sortedD : D → Option D
  | .lst l => (intsOf l).bind fun ns => if ns.length < 64 then some (.lst ((sortZ ns).map D.int)) else none
  | _ => none
section
variable {N : En} {W : WX} {X : Cx} {a : Expr} {f : Ex} {p pos : Pos}
theorem sim_sorted : CallSim N (rSorted N.K) sortedD := by
  intro M H cs x d z Q rc hx hg q
  unfold sortedD at hg
  split at hg
  · obtain ⟨ns, h1, h2⟩ := Option.bind_eq_some_iff.mp hg
    split at h2
    · rename_i h64
      cases h2
      obtain ⟨a, xs, rfl, k1, k2⟩ := hx.list
      rw [intsOf_of h1] at k2
      have e := ra_ints k2
      subst e
      refine ⟨a, ns, rfl, .of k1, h64, fun ns' p hp hs np => ?_⟩
      rw [sortZ_unique hp hs]
      exact q _ _ (Same.upd np) (rc.newLst np (RA.ints _))
    · cases h2
  · cases hg
theorem se_sorted (hK : X.K = N.K) (hg : Gl X "sorted") (hm : X.mg "sorted" = none) (ha : SB N W X a f) (he : starEach [a] X.env = (false, eval a X.env) :: starEach [] X.env := by rfl) : SE N W X (.Call (.Name "sorted" p) [a] [] pos) (eC1 sortedD f) :=
  se_c1 (hK ▸ cr_sorted) sim_sorted (by decide +kernel) (by decide) (by decide) hg hm ha he
@[simp] theorem x_sorted (ns : List Int) : sortedD (.lst (ns.map D.int)) = if ns.length < 64 then some (.lst ((sortZ ns).map D.int)) else none := by
  show (intsOf (ns.map D.int)).bind _ = _
  rw [intsOf_map]
  rfl
end
end Z
/-! ## list(range(n)) -/
namespace Z
open PySem PySem.Spec L2 GxR
open PyProof.Rows hiding St
def aLr (f : Ex) : As := fun s => (f s).bind fun x s1 => match x with
  | .int j => if -(2 ^ 62) ≤ j ∧ j ≤ 100000 then .ok (rngL 0 j) s1 else .stuck
  | _ => .stuck
section
variable {N : En} {W : WX} {X : Cx} {a : Expr} {f : Ex} {p p2 pos pos2 : Pos} {K : PySem.W.Frag} {M : MM} {H : Hp}
theorem ra_rng (a : Int) (n : Nat) : RA K M H ((List.range n).map fun i => V.int (a + (i : Nat))) ((List.range n).map fun (k : Nat) => D.int (a + k)) := by
  have gen : ∀ l : List Nat, RA K M H (l.map fun i => V.int (a + (i : Nat))) (l.map fun (k : Nat) => D.int (a + k)) := by
    intro l
    induction l with
    | nil => exact .nil
    | cons x l ih => exact .cons (.int _) ih
  exact gen _
theorem sf_listRg (hc : X.calm = true) (hg : Gl X "list") (hm : X.mg "list" = none) (hg2 : Gl X "range") (hm2 : X.mg "range" = none) (ha : SE N W X a f) (he : starEach [a] X.env = (false, eval a X.env) :: starEach [] X.env := by rfl)
    (he2 : starEach [.Call (.Name "range" p2) [a] [] pos2] X.env = (false, eval (.Call (.Name "range" p2) [a] [] pos2) X.env) :: starEach [] X.env := by rfl) :
    SF N W X (.Call (.Name "list" p) [.Call (.Name "range" p2) [a] [] pos2] [] pos) (aLr f) := by
  obtain ⟨t, pt, st⟩ := ha
  refine ⟨_, pe_listRg hc hg hm (prg_1 hg2 hm2 pt he) he2, fun M s σ H Q rl q => ?_⟩
  refine st M s σ H _ rl ?_
  unfold aLr at q
  cases hf : f s with
  | stuck => rw [hf] at q; exact q.elim
  | exc c d s1 => rw [hf] at q; exact q
  | ok x s1 =>
    rw [hf] at q
    refine fun M1 H1 e1 r1 v h1 => ?_
    replace q : GoodE N W σ M H (match x with | .int j => if -(2 ^ 62) ≤ j ∧ j ≤ 100000 then Res.ok (rngL 0 j) s1 else .stuck | _ => .stuck) _ := q
    cases x with
    | int j =>
      dsimp only at q
      split at q
      · rename_i hj
        cases h1
        refine ⟨j, rfl, ⟨by decide, by decide, hj.1, by omega, by omega⟩, fun p np => ?_⟩
        obtain ⟨_, e⟩ := r1.toRelC.laid (xs := rgV 0 j) np
        exact q _ _ (e1.trans e) (r1.laid np) p _ (e1.fresh rl.toRelC np) own1_same upd_same (ra_rng 0 _)
      · exact q.elim
    | _ => exact q.elim
end
end Z
/-! ## try with several clauses, each with a name -/
namespace Z
open PySem PySem.Spec L2 GxR
open PyProof.Rows hiding St
abbrev TSu := Addr → Value → Option Addr → TS
def endsOf (i : Nat) (D : Ends) : Ends := { nx := fun σ' H' => D.nx (σ'.set i none) H', rt := D.rt, bk := fun σ' H' => D.bk (σ'.set i none) H', ct := fun σ' H' => D.ct (σ'.set i none) H' }
def wNamed (K : PySem.W.Frag) (Wout : WX) (D : Ends) : List (Value × Nat × TSu) → WX
  | [] => Wout
  | (c, i, ts) :: r => fun cls d σ H => ∃ b, PySem.W.exmOne K cls c = some b ∧ (b = true → ∀ a, H a = none → ts a cls d (endsOf i D) (σ.set i (some (.ref a))) H) ∧ (b = false → wNamed K Wout D r cls d σ H)
inductive Clauses (X : Cx) : List ExceptHandler → List (Value × Nat × TSu) → Prop
  | nil : Clauses X [] []
  | cons {x n : Str} {c : Value} {i : Nat} {ts : TSu} {b₀ : Stmt} {suite : List Stmt} {np pos' : Pos} {hds : List ExceptHandler} {l : List (Value × Nat × TSu)} (hi : X.N[i]? = some n) (hln : X.env.kindOf n = some .local) (hc : Names X x c)
      (hsu : ∀ (a : Addr) (oe : Obj) (cls : Value) (d : Option Addr) (pn : List (Addr × Obj)), Zc cls d oe → (∃ vs, oe.data = .fields vs) → PSs (X.suite a ((a, oe) :: pn)) (b₀ :: suite) (ts a cls d)) (r : Clauses X hds l) :
      Clauses X (.ExceptHandler (some (.Name x np)) (some n) (b₀ :: suite) pos' :: hds) ((c, i, ts) :: l)
section
variable {X : Cx} {body : List Stmt} {h₀ : ExceptHandler} {hds : List ExceptHandler} {l : List (Value × Nat × TSu)} {pos : Pos} {tb : WX → TS} {Wout : WX}
theorem ps_try_named (hs : X.stack = X.env :: X.outer) (hf : X.env.frame = some X.env.locals) (hN : X.N.Nodup) (tk : Takes X Wout)
    (hb : ∀ (W : WX) (pn : List (Addr × Obj)) (xe : Value → Shared → Prop), Takes (X.tr pn xe) W → PassesOwn (model X.prog X.w) X.A X.env xe → PSs (X.tr pn xe) body (tb W))
    (hh : Clauses X (h₀ :: hds) l) : PS X (.Try body (h₀ :: hds) [] [] pos) (fun D σ H => tb (wNamed X.K Wout D l) D σ H) := by
  refine ⟨fun pins s σ H D I h => ?_⟩
  have ok := I.ok
  have hfr : X.A.frames = some (X.env :: X.outer) := by rw [ok.frames, hs]
  refine wpAny_Try_except ?_
  refine wpAny_mono ((hb (wNamed X.K Wout D l) (X.pn ++ pins) (fun e s₁ => wpAny (model X.prog X.w) X.A (noteFrame e X.env) (fun _ s₂ => wpAny (model X.prog X.w) X.A (setFlight e none) (fun _ s₃ =>
    wpAny (model X.prog X.w) X.A (handleBy e X.env (h₀ :: hds)) (SP X pins D) X.xe s₃) X.xe s₂) X.xe s₁) (fun u s' xx => ?_) PassesOwn.looking).run [] s σ H D (I.toTry _) h) (fun f s1 hsp => ?_) (fun e s1 he => he)
  · obtain ⟨a, B, sI, pins', σ', H', cls, d, rfl, J', nb, up, sky, na, os, ag, w⟩ := xx
    have J : Inv X pins σ' H' sI := J'.ofTry ok
    have sky' : Sky B (X.env :: X.outer) a (Zc cls d) X.env.locals s'.heap := by rw [← hs]; exact sky
    show wpAny (model X.prog X.w) X.A (noteFrame (.ref a) X.env) _ _ _
    refine Sky.land Zc.steady hfr hf sky' fun h3 fl3 up3 => ?_
    have J3 : Inv X pins σ' H' { s' with heap := h3 } := J.landed nb fl3.1 (up.trans up3) os ag
    obtain ⟨oe3, vs3, he3, hz3, hd3⟩ := fl3.there
    have nfr : a ∉ frs (X.env :: X.outer) := fun hm => by
      obtain ⟨_, o', e', hnf⟩ := fl3.2.2.1.mem hm
      rw [he3] at e'; cases e'
      exact hnf _ hd3
    have nL : a ≠ X.env.locals := fun z => nfr (List.mem_filterMap.mpr ⟨X.env, List.mem_cons_self, by rw [hf, z]⟩)
    have nF : a ∉ X.fs := fun hm => by
      obtain ⟨e, he, q⟩ := List.mem_filterMap.mp hm
      exact nfr (List.mem_filterMap.mpr ⟨e, List.mem_cons_of_mem _ he, q⟩)
    have S3 := J3.suite he3 hd3 na nL nF
    have go : ∀ {hds' : List ExceptHandler} {l' : List (Value × Nat × TSu)}, Clauses X hds' l' → wNamed X.K Wout D l' cls d σ' H' →
        wpAny (model X.prog X.w) X.A (handleBy (.ref a) X.env hds') (SP X pins D) X.xe { s' with heap := h3 } := by
      intro hds' l' hk
      induction hk with
      | nil =>
        intro w
        refine wpAny_handleBy_nil ?_
        obtain ⟨k1, k2, k3, oe, vs, T, oT, ts', he, hz, hd, h1, hr⟩ := id fl3
        unfold PySem.passOn
        refine wpAny_bind (wpAny_field he hd h1 ?_)
        rw [if_neg (show ¬ ((Value.ref T == Value.none) = true) from by simp)]
        have fin : wpAny (model X.prog X.w) X.A (setFlight (.ref a) X.env.frame) (fun _ s4 => wpAny (model X.prog X.w) X.A (throw (.ref a) : Sem Flow) (SP X pins D) X.xe s4) X.xe { s' with heap := h3 } := by
          rw [hf]
          refine HandSPX.setFlight_upZ fl3 fun h4 hh4 up4 => wpAny_throw (tk _ _ ?_)
          exact ⟨a, B, sI, pins, σ', H', cls, d, rfl, J, nb, (up.trans up3).trans up4, .inr (.inr (by rw [hs]; exact hh4)), na, os, ag, w⟩
        first
          | exact wpAny_bind (wpAny_pure (wpAny_bind fin))
          | exact wpAny_bind fin
      | @cons x n c i ts b₀ suite np pos' hds2 l2 hi hln hc hsu r ih =>
        intro w
        have hloc : Loc X.env.scope n := .inl hln
        obtain ⟨b, hb1, hyes, hno⟩ := w
        refine wpAny_handleBy_cons (codeAny_handlers_test ?_) (by intro q; cases q)
        have LT : PySem.W.Looks (model X.prog X.w) h3 (typeOf (.ref a)) cls := fun A Q E s k q => wpAny_typeOf_ref (k _ _ he3) (by rw [hz3.1]; exact q)
        have LM := PySem.W.exm_one (M := model X.prog X.w) (J3.kIn) LT hb1
        have test : ∀ {Q : Value → Shared → Prop} {E : Value → Shared → Prop}, Q c { s' with heap := h3 } → wpAny (model X.prog X.w) (X.A.mark (some (.ref a))) (eval (.Name x np) X.env) Q E { s' with heap := h3 } := fun {Q E} q => by
          obtain ⟨hg, hdbg, hm | ⟨hm, hv, hnn⟩⟩ := hc
          · exact ld_glob (X := X.suite a ((a, oe3) :: (X.pn ++ pins))) S3 hg hm q hdbg
          · exact ld_blt (X := X.suite a ((a, oe3) :: (X.pn ++ pins))) S3 hg hm hv q hnn hdbg
        refine test (LM.here ?_)
        cases b with
        | true =>
          refine codeAny_handlers_suite_as ?_
          refine HandSPX.lands_againZ fl3 fun h4 fl4 up4 => ?_
          have J4 : Inv X pins σ' H' { s' with heap := h4 } := J.landed nb fl4.1 ((up.trans up3).trans up4) os ag
          obtain ⟨oe4, vs4, he4, hz4, hd4⟩ := fl4.there
          have S4 := J4.suite he4 hd4 na nL nF
          refine store_ok (X := X.suite a ((a, oe4) :: (X.pn ++ pins))) (v := .ref a) S4 hN hi hloc rfl (fun s5 S5 => ?_) (.inr hln)
          refine wpAny_mono ((hsu a oe4 cls d (X.pn ++ pins) hz4 ⟨_, hd4⟩).run [] s5 _ H' _ S5 (hyes rfl a na)) (fun f s6 hsp => ?_) (fun _ _ z => False.elim z)
          have end_ : ∀ {σ6 : St} {H6 : Hp} {Q : Shared → Prop}, Inv (X.suite a ((a, oe4) :: (X.pn ++ pins))) [] σ6 H6 s6 → (∀ s7, Inv X pins (σ6.set i none) H6 s7 → Q s7) →
              wpAny (model X.prog X.w) X.A (do bindName X.env n .none; unbindBehindTheSuite X.env n pos') (fun _ s7 => Q s7) X.xe s6 := fun {σ6 H6 Q} S6 hq => gone_ok (S6.unsuite ok) hN hi hln hq
          cases f with
          | next =>
            obtain ⟨σ6, H6, S6, q6⟩ := hsp
            exact end_ S6 fun s7 J7 => ⟨_, _, J7, q6⟩
          | brk =>
            obtain ⟨σ6, H6, S6, q6⟩ := hsp
            exact end_ S6 fun s7 J7 => ⟨_, _, J7, q6⟩
          | cont =>
            obtain ⟨σ6, H6, S6, q6⟩ := hsp
            exact end_ S6 fun s7 J7 => ⟨_, _, J7, q6⟩
          | ret u =>
            obtain ⟨v6, σ6, H6, S6, r6, q6⟩ := hsp
            exact end_ S6 fun s7 J7 => ⟨_, _, _, J7, r6, q6⟩
        | false =>
          show wpAny _ X.A (handleBy (.ref a) X.env hds2) _ _ _
          exact ih (hno rfl)
    exact go hh w
  · cases f with
    | next =>
      obtain ⟨σ', H', J', q⟩ := hsp
      exact wpAny_execs_nil ⟨σ', H', J'.ofTry ok, q⟩
    | brk =>
      obtain ⟨σ', H', J', q⟩ := hsp
      exact ⟨σ', H', J'.ofTry ok, q⟩
    | cont =>
      obtain ⟨σ', H', J', q⟩ := hsp
      exact ⟨σ', H', J'.ofTry ok, q⟩
    | ret u =>
      obtain ⟨v, σ', H', J', r, q⟩ := hsp
      exact ⟨v, σ', H', J'.ofTry ok, r, q⟩
end
end Z
/-! ## .. and plain values -/
namespace Z
open PySem PySem.Spec L2 GxR
open PyProof.Rows hiding St
inductive HdsSim (N : En) : List (Nat × Nat × (D → D)) → List (Value × Nat × TSu) → Prop
  | nil : HdsSim N [] []
  | cons {c i : Nat} {C : Addr} {fld : Str} {ts : TSu} {g : D → D} {hs : List (Nat × Nat × (D → D))} {l : List (Value × Nat × TSu)} (ct : N.CT c = some (C, fld)) (te : PySem.W.exmOne N.K (.ref C) (.ref C) = some true) (ok : SuiteOk N i fld C ts g)
      (ne : ∀ v ∈ l, PySem.W.exmOne N.K v.1 (.ref C) = some false) (r : HdsSim N hs l) : HdsSim N ((c, i, g) :: hs) ((.ref C, i, ts) :: l)
def findH : List (Nat × Nat × (D → D)) → Nat → Option (Nat × (D → D))
  | [], _ => none
  | (c, i, g) :: r, k => if k = c then some (i, g) else findH r k
def sTryN (hs : List (Nat × Nat × (D → D))) (b : Ss) : Ss := fun s => match b s with
  | .exc c d s1 => (match findH hs c with
    | some (i, g) => if i < s1.ρ.length then .ok (.rt (g d)) s1 else .stuck
    | none => .stuck)
  | r => r
theorem find_mem {N : En} {hs : List (Nat × Nat × (D → D))} {l : List (Value × Nat × TSu)} (h : HdsSim N hs l) {c : Nat} {p : Nat × (D → D)} (hf : findH hs c = some p) : ∃ v ∈ l, ∃ C fld, N.CT c = some (C, fld) ∧ v.1 = .ref C := by
  induction h with
  | nil => cases hf
  | @cons c0 i C fld ts g hs l ct te ok ne r ih =>
    rw [findH] at hf
    split at hf
    · rename_i e
      subst e
      exact ⟨_, List.mem_cons_self, C, fld, ct, rfl⟩
    · obtain ⟨v, hv, q⟩ := ih hf
      exact ⟨v, List.mem_cons_of_mem _ hv, q⟩
theorem named_ok {N : En} {W : WX} {D' : Ends} {hs : List (Nat × Nat × (D → D))} {l : List (Value × Nat × TSu)} (h : HdsSim N hs l) {c i : Nat} {g : D → D} (hf : findH hs c = some (i, g)) {C : Addr} {fld : Str} (hct : N.CT c = some (C, fld))
    {M : MM} {s : S} {σ : St} {H : Hp} {dx : Addr} {v : V} {d : D} (r : Rel N M s σ H) (hl : i < σ.length) (hX : XD H dx fld v) (hR : R N.K M H v d)
    (q : GoodS N (fun _ _ _ _ => False) M H (.ok () s) (fun M' H' _ _ _ => ∀ u, R N.K M' H' u (g d) → D'.rt u H')) : wNamed N.K W D' l (.ref C) (some dx) σ H := by
  induction h with
  | nil => cases hf
  | @cons c0 i0 C0 fld0 ts g0 hs l ct te ok ne rr ih =>
    rw [findH] at hf
    split at hf
    · rename_i e
      subst e
      cases hf
      have h2 := hct.symm.trans ct
      simp only [Option.some.injEq, Prod.mk.injEq] at h2
      obtain ⟨rfl, rfl⟩ := h2
      exact ⟨true, te, fun _ a na => ok M s σ H (endsOf i D') a dx v d r hl hX hR q, fun z => nomatch z⟩
    · obtain ⟨w, hw, C', fld', k1, k2⟩ := find_mem rr hf
      have h2 := hct.symm.trans k1
      simp only [Option.some.injEq, Prod.mk.injEq] at h2
      have h3 := ne w hw
      rw [k2, ← h2.1] at h3
      exact ⟨false, h3, (fun z => (nomatch z)), (fun _ => ih hf)⟩
section
variable {N : En} {W : WX} {X : Cx} {body : List Stmt} {h₀ : ExceptHandler} {hds : List ExceptHandler} {l : List (Value × Nat × TSu)} {hs : List (Nat × Nat × (D → D))} {fb : Ss} {pos : Pos}
theorem ss_tryN (hK : X.K = N.K) (hst : X.stack = X.env :: X.outer) (hf : X.env.frame = some X.env.locals) (hN : X.N.Nodup) (tk : Takes X W)
    (hb : ∀ (W' : WX) (pn : List (Addr × Obj)) (xe : Value → Shared → Prop), Takes (X.tr pn xe) W' → SSs N W' (X.tr pn xe) body fb)
    (hc : Clauses X (h₀ :: hds) l) (hh : HdsSim N hs l) : SS N W X (.Try body (h₀ :: hds) [] [] pos) (sTryN hs fb) := by
  refine ⟨_, ps_try_named (tb := fun W' => canS N W' fb) hst hf hN tk (fun W' pn xe tk' _ => (hb W' pn xe tk').can) hc, fun M s σ H D' rl q => ⟨M, s, rl, ?_⟩⟩
  unfold sTryN at q
  cases hr : fb s with
  | ok fl s1 => rw [hr] at q; exact q
  | stuck => rw [hr] at q; exact q
  | exc c d s1 =>
    rw [hr] at q
    dsimp only at q
    cases hfi : findH hs c with
    | none => rw [hfi] at q; exact q.elim
    | some p =>
      obtain ⟨i, g⟩ := p
      rw [hfi] at q
      dsimp only at q
      by_cases hlt : i < s1.ρ.length
      · rw [if_pos hlt] at q
        intro M' H' σ' C fld dx v e r hct hX hR
        rw [hK]
        exact named_ok hh hfi hct r (by rw [r.len]; exact hlt) hX hR fun M2 H2 σ2 e2 r2 u hu => q M2 H2 σ2 (e.trans e2) r2 u hu
      · rw [if_neg hlt] at q
        exact q.elim
end
section
variable {N : En} {X : Cx} {a : Addr} {oe : Obj} {cls : Value} {d : Option Addr} {pn : List (Addr × Obj)} {n fld : Str} {C : Addr} {i : Nat} {p1 p2 p3 p4 : Pos}
/-- return n.f -/
def tsF (i : Nat) (C : Addr) (fld : Str) (a : Addr) (cls : Value) (d : Option Addr) : TS := tRet (tXf a cls d C fld (tVar i))
theorem su_f (hi : X.N[i]? = some n) (hln : X.env.scope.names.lookup n = some NameKind.local) (T : XfC X.K C) (hno : PySem.W.findIn X.K (.ref C) fld = some none) (hz : Zc cls d oe) (hf : ∃ vs, oe.data = .fields vs)
    (hd1 : (n == ("__debug__" : Str)) = false := by decide) (hd2 : (n == ("__classdict__" : Str)) = false := by decide)
    (hb : attributeBase (.Name n p1) fld X.env (eval (.Name n p1) X.env) = eval (.Name n p1) X.env := by rfl) :
    PSs (X.suite a ((a, oe) :: pn)) [.Return (some (.Attribute (.Name n p1) fld p2)) p3] (tsF i C fld a cls d) := by
  have pv : PE (X.suite a ((a, oe) :: pn)) (.Name n p1) (tVar i) := pe_var hi (.inl hln) hd1 hd2
  exact pss_one (ps_ret (pe_xf (X := X) (a := a) (oe := oe) (pn := pn) (cls := cls) (d := d) (pos := p2) T hno hz hf pv hb))
theorem ok_f : SuiteOk N i fld C (tsF i C fld) (fun d => d) := by
  intro M s σ H D a dx v d r hlt hX hR h
  obtain ⟨fs, h1, h2⟩ := hX
  exact ⟨.ref a, List.getElem?_set_self hlt, rfl, rfl, dx, fs, v, rfl, h1, h2, h M H σ (Ext.refl _ _) r v hR⟩
/-- return [n.f] -/
def tsL (i : Nat) (C : Addr) (fld : Str) (a : Addr) (cls : Value) (d : Option Addr) : TS := tRet (tLst (tCons (tXf a cls d C fld (tVar i)) tNil))
theorem su_l (hi : X.N[i]? = some n) (hln : X.env.scope.names.lookup n = some NameKind.local) (T : XfC X.K C) (hno : PySem.W.findIn X.K (.ref C) fld = some none) (hz : Zc cls d oe) (hf : ∃ vs, oe.data = .fields vs)
    (hd1 : (n == ("__debug__" : Str)) = false := by decide) (hd2 : (n == ("__classdict__" : Str)) = false := by decide)
    (hb : attributeBase (.Name n p1) fld X.env (eval (.Name n p1) X.env) = eval (.Name n p1) X.env := by rfl)
    (he2 : starEach [.Attribute (.Name n p1) fld p2] X.env = (false, eval (.Attribute (.Name n p1) fld p2) X.env) :: starEach [] X.env := by rfl) :
    PSs (X.suite a ((a, oe) :: pn)) [.Return (some (.List [.Attribute (.Name n p1) fld p2] p4)) p3] (tsL i C fld a cls d) := by
  have pv : PE (X.suite a ((a, oe) :: pn)) (.Name n p1) (tVar i) := pe_var hi (.inl hln) hd1 hd2
  have px := pe_xf (X := X) (a := a) (oe := oe) (pn := pn) (cls := cls) (d := d) (pos := p2) T hno hz hf pv hb
  exact pss_one (ps_ret (pe_lst (pa_cons px pa_nil he2)))
theorem ok_l : SuiteOk N i fld C (tsL i C fld) (fun d => .lst [d]) := by
  intro M s σ H D a dx v d r hlt hX hR h
  obtain ⟨fs, h1, h2⟩ := hX
  refine ⟨.ref a, List.getElem?_set_self hlt, rfl, rfl, dx, fs, v, rfl, h1, h2, (show 1 ≤ sizeLine from by decide), fun p hp => ?_⟩
  have sm : Same H (upd H p (.lst [v])) := Same.upd hp
  exact h M _ σ (r.toRelC.ext sm) (r.same sm) (.ref p) (.lst (r.toRelC.fresh hp) upd_same (.cons ((r.toRelC.ext sm).r hR) .nil))
end
section
variable {s : S} {b : Ss}
def tryN (hs : List (Nat × Nat × (D → D))) (r : Res Fl) : Res Fl := match r with
  | .exc c d s1 => (match findH hs c with
    | some (i, g) => if i < s1.ρ.length then .ok (.rt (g d)) s1 else .stuck
    | none => .stuck)
  | r => r
@[simp] theorem sTryN_eq (hs : List (Nat × Nat × (D → D))) : sTryN hs b s = tryN hs (b s) := by
  unfold sTryN tryN
  cases b s <;> rfl
@[simp] theorem tryN_ok (hs : List (Nat × Nat × (D → D))) (fl : Fl) (s : S) : tryN hs (.ok fl s) = .ok fl s := Eq.trans rfl rfl
theorem tryN_exc (hs : List (Nat × Nat × (D → D))) (c : Nat) (d : D) (s : S) : tryN hs (.exc c d s) = match findH hs c with | some (i, g) => if i < s.ρ.length then .ok (.rt (g d)) s else .stuck | none => .stuck := Eq.trans rfl rfl
end
end Z
namespace Z
open PySem PySem.Spec L2 GxR
theorem exm_not {K : PySem.W.Frag} {S S' : Addr} (h1 : PySem.W.subIn K (.ref S) (.type "BaseException") = some true) (h2 : PySem.W.isClsIn K S = true) (h3 : PySem.W.typeIn K (.ref S) = some (.type "type")) (h4 : PySem.W.subIn K (.ref S') (.ref S) = some false) : PySem.W.exmOne K (.ref S') (.ref S) = some false := by
  have h5 : (PySem.W.clsIn K S).isSome = true := h2
  simp [PySem.W.exmOne, PySem.W.kitCls, h1, h3, h4, h5]
end Z
/-! ## tuples that are known to have no dict: tuple(a list), t.index(x) -/
namespace Z
open PySem PySem.Spec L2 GxR
open PyProof.Rows hiding St
def wkD : D → D
  | .ft l => .tup l
  | d => d
def eW (f : Ex) : Ex := fun s => (f s).bind fun x s1 => .ok (wkD x) s1
theorem wk_R {K : PySem.W.Frag} {M : MM} {H : Hp} {v : V} {d : D} (h : R K M H v d) : R K M H v (wkD d) := by
  cases d <;> first | exact h | skip
  cases h with
  | ft h1 h2 => exact .tup h1.st h2
def ftD : D → Option D
  | .lst l => some (.ft l)
  | _ => none
/-- where such a tuple stands -/
def FtK (K : PySem.W.Frag) (H : Hp) (a : Addr) : Prop := (∃ o xs, H a = some (.frz o (.tup xs)) ∧ o.cls = .type "tuple" ∧ o.dict = none) ∨ ∃ o : Obj, K.lookup a = some o ∧ o.cls = .type "tuple" ∧ o.dict = none
theorem FtT.at {K : PySem.W.Frag} {M : MM} {H : Hp} {a : Addr} {xs : List V} (h : FtT K M H a xs) : FtK K H a := by
  rcases h with ⟨_, o, h, c, d⟩ | ⟨o, its, n, h1, h2, h3, _⟩
  · exact .inl ⟨o, xs, h, c, d⟩
  · exact .inr ⟨o, h1, h2, h3⟩
section
variable {X : Cx}
theorem ft_is {pins : List (Addr × Obj)} {σ : St} {H : Hp} {s : Shared} {a : Addr} (I : Inv X pins σ H s) (h : FtK X.K H a) : s.TypeIs (.ref a) "tuple" ∧ ∀ b, Value.ref a = .ref b → ∃ ob, s.heap.get? b = some ob ∧ ob.dict = none := by
  rcases h with ⟨o, xs, h, c, d⟩ | ⟨o, h, c, d⟩
  · obtain ⟨e, _⟩ := I.hok a _ h
    exact ⟨⟨o, e, c⟩, fun b z => by cases z; exact ⟨o, e, d⟩⟩
  · exact ⟨⟨o, I.kIn a o h, c⟩, fun b z => by cases z; exact ⟨o, I.kIn _ o h, d⟩⟩
theorem call_ftuple_of : CallR X (.type "tuple") (fun xs H Q => ∃ p ys, xs = [.ref p] ∧ SqL X.K H p ys ∧ ∀ (l : Addr) (o : Obj), o.cls = .type "tuple" → o.dict = none → H l = none → Q (.ref l) (upd H l (.frz o (.tup ys)))) := by
  intro pins s σ H xs us Q I r h
  obtain ⟨p, ys, rfl, hq, q⟩ := h
  obtain ⟨u, rfl, rx⟩ := vals1 r
  cases rx
  obtain ⟨its, r', pl, hz⟩ := I.list hq
  have hlen := r'.length
  refine call_tuple_list pl.isList (fun h' kp => ?_) (by simp only [List.size_toArray] <;> omega)
  have I1 : Inv X pins σ H { s with heap := h' } := I.kept (t' := s.toks) kp
  have I2 : Inv X pins σ (upd H h'.objs.size (.frz { cls := .type "tuple", data := .seq its.toArray } (.tup ys))) { s with heap := h'.push { cls := .type "tuple", data := .seq its.toArray } } :=
    I1.laid (t' := s.toks) (fun b o e => Heap.get?_push_of_some _ e) (Nat.le_refl _) ⟨Heap.get?_push_size _ rfl, show ObjOk X.prog X.w _ _ _ (.tup ys) from ⟨hz, its, r', IsTup.new _ _⟩⟩
  exact ⟨.ref h'.objs.size, _, I2, rfl, q _ _ rfl rfl (I1.hok.fresh (Nat.le_refl _))⟩
def rIdxT (K : PySem.W.Frag) : V → List V → Hp → VK → Prop := fun x xs H Q => ∃ (a : Addr) (ys : List V) (y : V), x = .ref a ∧ xs = [y] ∧ SqT K H a ys ∧ ys.length ≤ sizeLine ∧ flatV y = true ∧ ys.all flatV = true ∧ true ∈ (ys.map fun z => eqV z y) ∧ Q (.int ((ys.map fun z => eqV z y).idxOf true : Nat)) H
theorem mt_idxT : MtR X "tuple.index" (rIdxT X.K) := by
  intro pins s σ H x xs v us Q I rx rxs h
  obtain ⟨a, ys, y, rfl, rfl, hs, hz, fy, fys, hm, q⟩ := h
  cases rx
  obtain ⟨u, rfl, ry⟩ := rxs.one
  obtain ⟨its, rv, p, _⟩ := I.tuple hs
  exact SeqAt.call_tuple_index p (items_eq ry fy rv fys) hm ⟨.int ((ys.map fun z => eqV z y).idxOf true : Nat), H, I.tok _, ⟨_, rfl⟩, q⟩
def tTM (K : PySem.W.Frag) (r : V → List V → Hp → VK → Prop) (to : TE) (t : TA) : TE := fun σ H Q => to σ H fun x H1 => (∃ a, x = .ref a ∧ FtK K H1 a) ∧ t σ H1 fun xs H2 => r x xs H2 Q
theorem pe_tm {o e : Expr} {es : List Expr} {to : TE} {t : TA} {name : Str} {apos cpos : Pos} {id : String} {r : V → List V → Hp → VK → Prop} (slot : PySem.Slot "tuple" name id) (hty : typeOf (.builtin id) = pure (.type "method_descriptor")) (hm : MtR X id r) (ho : PE X o to) (ha : PA X (e :: es) t)
    (hbase : attributeBase o name X.env (eval o X.env) = eval o X.env := by rfl)
    (hfew : ((backTo cpos (starEach (e :: es) X.env)).all (fun x => !x.1) && (backToKw cpos (keywordEach [] X.env)).all (fun x => x.1.isSome)
      && decide ((e :: es).length + ([] : List Keyword).length + (if ([] : List Keyword).isEmpty then 0 else 1) < 30)) = true := by rfl)
    (hline : (apos.endLine == cpos.line) = true := by rfl) (hs : starEach (e :: es) X.env = (false, eval e X.env) :: starEach es X.env := by rfl) (hplain : (backTo cpos (starEach es X.env)).any (·.1) = false := by rfl) :
    PE X (.Call (.Attribute o name apos) (e :: es) [] cpos) (tTM X.K r to t) := by
  refine ⟨fun pins s σ H Q I h => ?_⟩
  refine wpAny_Call_method_late hbase hfew hline rfl (thn (ho.run pins s σ H _ I h) fun v s1 ⟨x, H1, I1, r1, ⟨a, ex, ty⟩, q1⟩ => ?_)
  subst ex
  cases r1
  obtain ⟨h1, h2⟩ := ft_is I1 ty
  refine ⟨"tuple", id, PySem.F.plainAttrs_tuple, slot, hty, h1, h2, ?_⟩
  have hA := ha.run cpos pins s1 σ H1 _ I1 q1
  rw [hs] at hA ⊢
  refine Calls.callWith_builtin (by show (false || (backTo cpos (starEach es X.env)).any (·.1)) = false; rw [hplain] <;> rfl) (Calls.evalArgs_plain ?_)
  exact thn hA fun us s2 ⟨vs, H2, I2, r2, q2⟩ => hm pins s2 σ H2 (.ref a) vs (.ref a) us Q I2 rfl r2 q2
end
section
variable {N : En} {W : WX} {X : Cx} {o e a : Expr} {fo fe f : Ex} {apos cpos p pos : Pos}
theorem se_w (h : SE N W X e f) : SE N W X e (eW f) := by
  obtain ⟨t, p, hs⟩ := h
  exact ⟨t, p, fun M s σ H Q rl q => hs M s σ H Q rl (q.bind.imp fun M1 H1 x s1 e1 r1 q1 v hv => q1.here r1 v (wk_R hv))⟩
theorem sim_ftuple : CallSim N (fun xs H Q => ∃ p ys, xs = [.ref p] ∧ SqL N.K H p ys ∧ ∀ (l : Addr) (o : Obj), o.cls = .type "tuple" → o.dict = none → H l = none → Q (.ref l) (upd H l (.frz o (.tup ys)))) ftD := by
  intro M H cs x d z Q rc hx hg q
  unfold ftD at hg
  split at hg
  · cases hg
    obtain ⟨a, xs, rfl, h1, h2⟩ := hx.list
    exact ⟨a, xs, rfl, .of h1, fun p o hc hd np => q _ _ (Same.upd np) (.ft (.inl ⟨rc.fresh np, o, upd_same, hc, hd⟩) ((rc.ext (Same.upd np)).ra h2))⟩
  · cases hg
theorem se_ftuple (hK : X.K = N.K) (hg : Gl X "tuple") (hm : X.mg "tuple" = none) (ha : SB N W X a f) (he : starEach [a] X.env = (false, eval a X.env) :: starEach [] X.env := by rfl) : SE N W X (.Call (.Name "tuple" p) [a] [] pos) (eC1 ftD f) :=
  se_c1T (hK ▸ call_ftuple_of) sim_ftuple (by decide +kernel) (by decide) (by decide) hg hm ha he
def idxF (x : D) (y : D) : Option D := match x with
  | .ft l => if flatD y && l.all flatD && (l.any fun z => eqD z y) && decide (l.length ≤ 100000) then some (.int ((l.map fun z => eqD z y).idxOf true : Nat)) else none
  | _ => none
def eIdxT (fo fe : Ex) : Ex := fun s => (fo s).bind fun x s1 => match x with
  | .ft l => (fe s1).bind fun y s2 => lift (idxF (.ft l) y) s2
  | _ => .stuck
theorem se_indexT (hK : X.K = N.K) (ho : SE N W X o fo) (he : SE N W X e fe)
    (hbase : attributeBase o "index" X.env (eval o X.env) = eval o X.env := by rfl)
    (hfew : ((backTo cpos (starEach [e] X.env)).all (fun x => !x.1) && (backToKw cpos (keywordEach [] X.env)).all (fun x => x.1.isSome) && decide ([e].length + ([] : List Keyword).length + (if ([] : List Keyword).isEmpty then 0 else 1) < 30)) = true := by rfl)
    (hline : (apos.endLine == cpos.line) = true := by rfl) (hs : starEach [e] X.env = (false, eval e X.env) :: starEach [] X.env := by rfl) (hplain : (backTo cpos (starEach [] X.env)).any (·.1) = false := by rfl) :
    SE N W X (.Call (.Attribute o "index" apos) [e] [] cpos) (eIdxT fo fe) := by
  obtain ⟨t, pt, ho⟩ := ho
  obtain ⟨u, pu, he⟩ := he
  refine ⟨_, pe_tm PySem.F.slot_tuple_index PySem.F.type_tuple_index mt_idxT pt (pa_cons pu pa_nil hs) hbase hfew hline hs hplain, fun M s σ H Q rl q => ?_⟩
  refine ho M s σ H _ rl (q.bind.imp fun M1 H1 x s1 e1 r1 q1 v hv => ?_)
  split at q1
  · rename_i l
    cases hv with
    | ft h2 h3 =>
      rename_i a xs
      refine ⟨⟨a, rfl, hK ▸ h2.at⟩, he M1 s1 σ H1 _ r1 (q1.bind.imp fun M2 H2 y s2 e2 r2 q2 w hw => ?_)⟩
      obtain ⟨z, hz, q3⟩ := q2.lift r2
      unfold idxF at hz
      simp only at hz
      split at hz
      · rename_i hc
        cases hz
        simp only [Bool.and_eq_true, decide_eq_true_eq] at hc
        obtain ⟨⟨⟨c1, c2⟩, c3⟩, c4⟩ := hc
        have h4 := e2.ra h3
        have h5 := e2.toExt0.ftt h2
        have em := flat_map hw c1 h4 c2
        refine ⟨a, xs, w, rfl, rfl, hK ▸ h5.st.sq, len_line (by rw [h4.length]; exact c4), flat_R hw c1, flat_all h4 c2, by rw [em]; exact mem_map_any c3, ?_⟩
        rw [em]
        exact q3 _ (.int _)
      · cases hz
  · exact q1.elim
end
end Z
/-! ## reversed of a tuple, zip of two tuples -/
namespace Z
open PySem PySem.Spec L2 GxR
open PyProof.Rows hiding St
def iRevT (f : Ex) : Is := fun s => (f s).bind fun x s1 => match x with
  | .tup l => .ok l.reverse s1
  | _ => .stuck
def zpD : List D → List D → List D
  | a :: l, b :: m => .tup [a, b] :: zpD l m
  | _, _ => []
theorem zp_len : ∀ (l m : List D), (zpD l m).length = min l.length m.length
  | [], m => by cases m <;> simp [zpD]
  | _ :: _, [] => by simp [zpD]
  | _ :: l, _ :: m => by rw [zpD, List.length_cons, List.length_cons, List.length_cons, zp_len l m]; omega
theorem zp_get : ∀ {l m : List D} {i : Nat} {d : D}, (zpD l m)[i]? = some d → ∃ a b, l[i]? = some a ∧ m[i]? = some b ∧ d = .tup [a, b]
  | [], m, i, d, h => by cases m <;> simp [zpD] at h
  | _ :: _, [], i, d, h => by simp [zpD] at h
  | a :: l, b :: m, 0, d, h => by
    rw [zpD] at h
    simp only [List.getElem?_cons_zero, Option.some.injEq] at h
    exact ⟨a, b, rfl, rfl, h.symm⟩
  | a :: l, b :: m, i + 1, d, h => by
    rw [zpD, List.getElem?_cons_succ] at h
    obtain ⟨x, y, h1, h2, h3⟩ := zp_get h
    exact ⟨x, y, by simpa using h1, by simpa using h2, h3⟩
def iZipT (fs : As) : Is := fun s => (fs s).bind fun ds s1 => match ds with
  | [.tup l, .tup m] => .ok (zpD l m) s1
  | _ => .stuck
section
variable {N : En} {W : WX} {X : Cx} {M : MM} {H : Hp} {e e2 tg : Expr} {fe : Ex} {fs : As} {p pos tpos : Pos} {elts : List Expr} {kk : Nat}
theorem steps_revT {a : Addr} {xs : List V} {l : List D} (h : StT N.K M H a xs) (q : RA N.K M H xs l) : Steps N M H (RT.ItvT N.K a xs.length) l.reverse := fun M2 H2 cs e rc i => by
  have h2 := (e.toExt0.stt h).sq
  have hl := q.length
  refine ⟨fun hle => by rw [List.length_reverse] at hle; show xs.length ≤ i; omega, fun d hd => ?_⟩
  have hi : i < l.length := by
    have := (List.getElem?_eq_some_iff.mp hd).1
    rwa [List.length_reverse] at this
  rw [List.getElem?_reverse hi] at hd
  obtain ⟨v, k1, k2⟩ := (e.ra q).get hd
  rw [← hl] at k1
  refine ⟨⟨by omega, xs, v, h2, k1⟩, fun x H' y => ?_⟩
  obtain ⟨rfl, y⟩ := y
  have := y xs h2
  rw [k1] at this
  cases this
  exact ⟨Same.refl _, k2⟩
theorem si_revT (hK : X.K = N.K) (hg : Gl X "reversed") (hm : X.mg "reversed" = none) (h : SE N W X e fe)
    (hs : starEach [e] X.env = (false, eval e X.env) :: starEach [] X.env := by rfl) : SI N W X tg (.Call (.Name "reversed" p) [e] [] pos) (iRevT fe) := by
  obtain ⟨t, pt, h⟩ := h
  refine ⟨_, RT.pi_revA hg hm pt hs, fun M s σ H Q rl q => h M s σ H _ rl (q.bind.imp fun M1 H1 x s1 e1 r1 q1 v h1 => ?_)⟩
  split at q1
  · cases h1 with
    | tup h2 h3 => exact ⟨_, _, rfl, .inr ⟨hK ▸ h2.sq, by rw [hK]; exact q1.here r1 _ (steps_revT h2 h3)⟩⟩
  · exact q1.elim
theorem pair2 {cs : List Cell} {M2 : MM} {H2 : Hp} {T : Addr} {x y : V} {d e : D} (rc : RelC N M2 cs H2) (hT : H2 T = none) (r : R N.K M2 H2 x d) (r' : R N.K M2 H2 y e) :
    Same H2 (upd H2 T (.tup [x, y])) ∧ R N.K M2 (upd H2 T (.tup [x, y])) (.ref T) (.tup [d, e]) := by
  have sm : Same H2 (upd H2 T (.tup [x, y])) := Same.upd hT
  exact ⟨sm, .tup (.inl ⟨rc.fresh hT, .inl (upd_same ..)⟩) (.cons ((rc.ext sm).r r) (.cons ((rc.ext sm).r r') .nil))⟩
theorem steps_zipT {a b : Addr} {xs ys : List V} {l m : List D} (h : StT N.K M H a xs) (q : RA N.K M H xs l) (h' : StT N.K M H b ys) (q' : RA N.K M H ys m) : Steps N M H (RZ.ItzT N.K a b) (zpD l m) := fun M2 H2 cs e rc i => by
  have h2 := (e.toExt0.stt h).sq
  have h2' := (e.toExt0.stt h').sq
  have hl := q.length
  have hl' := q'.length
  refine ⟨fun hle => ⟨xs, ys, h2, h2', by rw [zp_len] at hle; omega⟩, fun d hd => ?_⟩
  obtain ⟨a0, b0, ha, hb, rfl⟩ := zp_get hd
  obtain ⟨v, k1, k2⟩ := (e.ra q).get ha
  obtain ⟨u, j1, j2⟩ := (e.ra q').get hb
  refine ⟨⟨xs, ys, v, u, h2, h2', k1, j1⟩, fun x H' y => ?_⟩
  obtain ⟨T, x', y', rfl, hT, rfl, y1, y2⟩ := y
  have t1 := y1 xs h2
  have t2 := y2 ys h2'
  rw [k1] at t1
  rw [j1] at t2
  cases t1
  cases t2
  exact pair2 rc hT k2 j2
theorem si_zipT (hK : X.K = N.K) (hg : Gl X "zip") (hm : X.mg "zip" = none) (ha : SA N W X [e, e2] fs)
    (hs : starEach [e, e2] X.env = (false, eval e X.env) :: starEach [e2] X.env := by rfl) (hpl : (backTo pos (starEach [e2] X.env)).any (·.1) = false := by rfl) :
    SI N W X (.Tuple elts kk tpos) (.Call (.Name "zip" p) [e, e2] [] pos) (iZipT fs) := by
  obtain ⟨t, pt, h, _⟩ := ha
  refine ⟨_, RZ.pi_zipA hg hm pt hs hpl, fun M s σ H Q rl q => h M s σ H _ rl (q.bind.imp fun M1 H1 x s1 e1 r1 q1 vs h1 => ?_)⟩
  split at q1
  · cases h1 with
    | cons r rr =>
      cases rr with
      | cons r' rr =>
        cases rr
        cases r with
        | tup h2 h3 =>
          cases r' with
          | tup h2' h3' => exact ⟨_, _, _, _, rfl, .inr ⟨hK ▸ h2.sq, hK ▸ h2'.sq, by rw [hK]; exact q1.here r1 _ (steps_zipT h2 h3 h2' h3')⟩⟩
  · exact q1.elim
end
end Z
/-! ## except C as n: return n.f if isinstance(n, A) and isinstance(n, B) else None -/
namespace Z
open PySem PySem.Spec L2 GxR
open PyProof.Rows hiding St
def rIsX (K : PySem.W.Frag) (C : Addr) (cls : Value) (a : Addr) (d : Option Addr) : List V → Hp → VK → Prop := fun xs H Q => ∃ (c : V) (cv : Value), xs = [.ref a, c] ∧ (∀ u, RelV c u → u = cv) ∧ cls = .ref C ∧
  (∃ (dd : Addr) (fs : List (Str × V)), d = some dd ∧ H dd = some (.xd fs)) ∧ PySem.W.kitOne K (.ref C) cv = some true ∧ Q (.bl true) H
section
variable {X : Cx} {a C : Addr} {oe : Obj} {cls : Value} {d : Option Addr} {pn : List (Addr × Obj)}
theorem call_isX (T : ExcC X.K C) (hcl : (PySem.W.clsIn X.K C).isSome = true) (hz : Zc cls d oe) (hf : ∃ vs, oe.data = .fields vs) : CallR (X.suite a ((a, oe) :: pn)) (.builtin "isinstance") (rIsX X.K C cls a d) := by
  intro pins s σ H xs us Q I r h
  obtain ⟨c, cv, rfl, hcv, ec, ⟨dd, fs, ed, hx⟩, e, q⟩ := h
  subst ec
  subst ed
  obtain ⟨u1, u2, rfl, rx, rt⟩ := r.two
  obtain rfl : u1 = Value.ref a := rx
  have ev := hcv _ rt
  subst ev
  obtain ⟨ha, _⟩ := I.pin (a, oe) (List.mem_append_left _ List.mem_cons_self)
  obtain ⟨vs, hd⟩ := hf
  have hx : ObjOk X.prog X.w H s.heap dd (.xd fs) := I.hok dd _ hx
  obtain ⟨mA, hns, hr⟩ := hx
  obtain ⟨od, ho, hl⟩ := lookIn_ns hns
  have J : PySem.W.InstAt s.heap a oe C (some od) := ⟨ha, hz.1, by unfold PySem.W.notCls; rw [hd] <;> rfl, by rw [hz.2]; exact ho⟩
  exact PySem.W.kia_one (PySem.W.kitx_exc hcl T.hg T.hk T.hs T.ha T.hn T.ht T.hm) I.kIn J e (fun z => nomatch z) fun tk => ⟨.bl true, H, I.kept (t' := tk) fun _ _ z => z, rfl, q⟩
end
section
variable {N : En} {X : Cx} {a : Addr} {oe : Obj} {cls : Value} {d : Option Addr} {pn : List (Addr × Obj)} {n fld : Str} {C : Addr} {i : Nat} {p1 p2 p3 p4 p5 p6 q1 q2 q3 q4 q5 q6 : Pos} {t1 t2 : Expr} {v1 v2 : V} {k : Nat}
def tsI (K : PySem.W.Frag) (v1 v2 : V) (i : Nat) (C : Addr) (fld : Str) (a : Addr) (cls : Value) (d : Option Addr) : TS :=
  tRet (tIf (tAnd (L2.tB (tCB (rIsX K C cls a d) (tCons (tVar i) (tCons (tC v1) tNil)))) (L2.tB (tCB (rIsX K C cls a d) (tCons (tVar i) (tCons (tC v2) tNil))))) (tXf a cls d C fld (tVar i)) (tC .non))
theorem su_i (hi : X.N[i]? = some n) (hln : X.env.scope.names.lookup n = some NameKind.local) (T : XfC X.K C) (hno : PySem.W.findIn X.K (.ref C) fld = some none) (E : ExcC X.K C) (hcl : (PySem.W.clsIn X.K C).isSome = true) (hz : Zc cls d oe) (hf : ∃ vs, oe.data = .fields vs)
    (hg : Gl (X.suite a ((a, oe) :: pn)) "isinstance") (hm : X.mg "isinstance" = none) (h1 : PE (X.suite a ((a, oe) :: pn)) t1 (tC v1)) (h2 : PE (X.suite a ((a, oe) :: pn)) t2 (tC v2))
    (hd1 : (n == ("__debug__" : Str)) = false := by decide) (hd2 : (n == ("__classdict__" : Str)) = false := by decide)
    (hb : attributeBase (.Name n p3) fld X.env (eval (.Name n p3) X.env) = eval (.Name n p3) X.env := by rfl)
    (he : starEach [.Name n p1, t1] X.env = (false, eval (.Name n p1) X.env) :: starEach [t1] X.env := by rfl) (he1 : starEach [t1] X.env = (false, eval t1 X.env) :: starEach [] X.env := by rfl)
    (he' : starEach [.Name n p2, t2] X.env = (false, eval (.Name n p2) X.env) :: starEach [t2] X.env := by rfl) (he1' : starEach [t2] X.env = (false, eval t2 X.env) :: starEach [] X.env := by rfl) :
    PSs (X.suite a ((a, oe) :: pn)) [.Return (some (.IfExp (.BoolOp .And [.Call (.Name "isinstance" q1) [.Name n p1, t1] [] q2, .Call (.Name "isinstance" q3) [.Name n p2, t2] [] q4] q5) (.Attribute (.Name n p3) fld p4) (.Constant .none k p5) q6)) p6] (tsI X.K v1 v2 i C fld a cls d) := by
  have pv : ∀ p, PE (X.suite a ((a, oe) :: pn)) (.Name n p) (tVar i) := fun p => pe_var hi (.inl hln) hd1 hd2
  have px := pe_xf (X := X) (a := a) (oe := oe) (pn := pn) (cls := cls) (d := d) (pos := p4) T hno hz hf (pv p3) hb
  have c1 := pe_callB (pos := q2) (p := q1) (call_isX (pn := pn) E hcl hz hf) hg hm (by decide +kernel) (pa_cons (pv p1) (pa_cons h1 pa_nil he1) he) (by decide) (by decide) he (by show (backTo q2 (starEach [t1] X.env)).any _ = false; rw [he1]; rfl)
  have c2 := pe_callB (pos := q4) (p := q3) (call_isX (pn := pn) E hcl hz hf) hg hm (by decide +kernel) (pa_cons (pv p2) (pa_cons h2 pa_nil he1') he') (by decide) (by decide) he' (by show (backTo q4 (starEach [t2] X.env)).any _ = false; rw [he1']; rfl)
  exact pss_one (ps_ret (pe_ifExp (pw_and (pt_val c1) (pw_and1 (pt_val c2))).pt px pe_non))
theorem ok_i {cv1 cv2 : Value} (hc1 : ∀ u, RelV v1 u → u = cv1) (hc2 : ∀ u, RelV v2 u → u = cv2) (k1 : PySem.W.kitOne N.K (.ref C) cv1 = some true) (k2 : PySem.W.kitOne N.K (.ref C) cv2 = some true) : SuiteOk N i fld C (tsI N.K v1 v2 i C fld) (fun d => d) := by
  intro M s σ H D a dx v d r hlt hX hR h
  obtain ⟨fs, h1, h2⟩ := hX
  have one : ∀ (c : V) (cv : Value) (Q : Bool → Hp → Prop), (∀ u, RelV c u → u = cv) → PySem.W.kitOne N.K (.ref C) cv = some true → Q true H → L2.tB (tCB (rIsX N.K C (.ref C) a (some dx)) (tCons (tVar i) (tCons (tC c) tNil))) (σ.set i (some (.ref a))) H Q := fun c cv Q hc he q =>
    ⟨.ref a, List.getElem?_set_self hlt, c, cv, rfl, hc, rfl, ⟨dx, fs, rfl, h1⟩, he, true, rfl, q⟩
  exact one v1 cv1 _ hc1 k1 (iteT (one v2 cv2 _ hc2 k2 (iteT ⟨.ref a, List.getElem?_set_self hlt, rfl, rfl, dx, fs, v, rfl, h1, h2, h M H σ (Ext.refl _ _) r v hR⟩)))
end
end Z
/-! ## tuple(range(n)), known to have no dict -/
namespace Z
open PySem PySem.Spec L2 GxR
open PyProof.Rows hiding St
def tFtRg (te : St → Hp → (Int → Int → Hp → Prop) → Prop) : TE := fun σ H Q => te σ H fun a b H1 => RgOk a b ∧ ∀ (q : Addr) (o : Obj), o.cls = .type "tuple" → o.dict = none → H1 q = none → Q (.ref q) (upd H1 q (.frz o (.tup (rgV a b))))
theorem pe_ftRg {X : Cx} {e : Expr} {te : St → Hp → (Int → Int → Hp → Prop) → Prop} {p pos : Pos} (hc : X.calm = true) (hg : Gl X "tuple") (hm : X.mg "tuple" = none) (he : PRg X e te) (na : starEach [e] X.env = (false, eval e X.env) :: starEach [] X.env := by rfl) : PE X (.Call (.Name "tuple" p) [e] [] pos) (tFtRg te) := by
  refine ⟨fun pins s σ H Q I h => ?_⟩
  refine Call_ (ld_blt I hg hm boot_tuple (PyProof.Rows.callWith_type1 (args_cons (thn (he pins s σ H _ I h) fun x s1 hx => args_nil ?_) na) na))
  obtain ⟨r, a, b, t, u, v, H1, ex, hr, I1, ok, q⟩ := hx
  subst ex
  obtain ⟨b1, b2, b3, b4, b5⟩ := ok
  refine call_tuple_range (n := (b - a).toNat) (I1.ok.hd hc) hr (small_one b1 b2 b3 b4) (rangeSize_nat a b) b5 fun h' tk acc hk hi => ?_
  have I2 : Inv X pins σ H1 { s1 with heap := h', toks := tk } := I1.kept hk
  have hz : (rgV a b).length ≤ sizeLine := by rw [rgV_length, sizeLine_eq]; omega
  have ob : ObjOk X.prog X.w (upd H1 h'.objs.size (.frz { cls := .type "tuple", data := .seq acc } (.tup (rgV a b)))) (h'.push { cls := .type "tuple", data := .seq acc }) h'.objs.size (.frz { cls := .type "tuple", data := .seq acc } (.tup (rgV a b))) :=
    ⟨Heap.get?_push_size _ rfl, show ObjOk X.prog X.w _ _ _ (.tup (rgV a b)) from ⟨hz, acc.toList, vals_rg hi, by rw [Array.toArray_toList]; exact IsTup.new _ _⟩⟩
  exact ⟨.ref h'.objs.size, _, I2.laid (t' := tk) (fun c o e => Heap.get?_push_of_some _ e) (Nat.le_refl _) ob, rfl, q _ _ rfl rfl (I2.hok.fresh (Nat.le_refl _))⟩
def eFr (f : Ex) : Ex := fun s => (f s).bind fun x s1 => match x with
  | .int j => if -(2 ^ 62) ≤ j ∧ j ≤ 100000 then .ok (.ft (rngL 0 j)) s1 else .stuck
  | _ => .stuck
theorem se_ftRg {N : En} {W : WX} {X : Cx} {a : Expr} {f : Ex} {p p2 pos pos2 : Pos} (hc : X.calm = true) (hg : Gl X "tuple") (hm : X.mg "tuple" = none) (hg2 : Gl X "range") (hm2 : X.mg "range" = none) (ha : SE N W X a f) (he : starEach [a] X.env = (false, eval a X.env) :: starEach [] X.env := by rfl)
    (he2 : starEach [.Call (.Name "range" p2) [a] [] pos2] X.env = (false, eval (.Call (.Name "range" p2) [a] [] pos2) X.env) :: starEach [] X.env := by rfl) :
    SE N W X (.Call (.Name "tuple" p) [.Call (.Name "range" p2) [a] [] pos2] [] pos) (eFr f) := by
  obtain ⟨t, pt, st⟩ := ha
  refine ⟨_, pe_ftRg hc hg hm (prg_1 hg2 hm2 pt he) he2, fun M s σ H Q rl q => st M s σ H _ rl (q.bind.imp fun M1 H1 x s1 e1 r1 q1 v hv => ?_)⟩
  split at q1
  · rename_i j
    split at q1
    · rename_i hj
      cases hv
      refine ⟨j, rfl, ⟨by decide, by decide, hj.1, by omega, by omega⟩, fun p o hc hd np => ?_⟩
      exact q1.grown r1 (Same.upd np) _ (.ft (.inl ⟨r1.toRelC.fresh np, o, upd_same, hc, hd⟩) (ra_rng 0 _))
    · exact q1.elim
  · exact q1.elim
end Z
/-! ## *= of ints; a def that raises and has a generator expression -/
namespace Z
open PySem PySem.Spec L2 GxR
open PyProof.Rows hiding St
def mulI (x y : D) : Option D := match x, y with
  | .int i, .int j => if (-(2 ^ 64) < i ∧ i < 2 ^ 64) ∨ (-(2 ^ 64) < j ∧ j < 2 ^ 64) then some (.int (i * j)) else none
  | _, _ => none
theorem sim_mulI {N : En} : OpSim N (rI CMul fun i j => .int (i * j)) mulI := by
  intro M H cs x y d e z Q rc hx hy hg q
  unfold mulI at hg
  split at hg
  · split at hg
    · rename_i hc
      cases hg
      exact ⟨_, _, hx.int, hy.int, hc, q _ _ (Same.refl _) (.int _)⟩
    · cases hg
  · cases hg
section
variable {P : Program} {w : World} {mg : Str → Option Value} {base : Heap}
theorem func_okX {K : PySem.W.Frag} {x qual : Str} {st : Stmt} {f c : Addr} {fd : FuncData} {Ns ps : List Str} {k : Nat} {sp : Sp} (F : GXX.FunC K x qual st f fd c) (S : FnScope Ns ps (defScope st)) (len : ∀ vs H Q E, sp vs H Q E → vs.length = ps.length)
    (hb : ∀ (A : Around) (outer : List Env) (s : Shared) (H : Hp) (vs : List V) (Q : VK) (E : XK), Room k (A.deeper (envOfC qual (defScope st) s.heap.objs.size f (.ref c))) → sp vs H Q E →
      ∃ t, PSs (cxOf (L2.CX P w) P w K mg base Ns qual (defScope st) f (.ref c) A outer s H E) (defBody st) t ∧ t { nx := fun _ H' => Q .non H', rt := Q } (start Ns vs) H) : FnOk P w K mg base (L2.CX P w) (k + 1) f fd ps sp := by
  obtain ⟨oc, od, kV, doc, pm, an, ct, osl, e, lk, hcd⟩ := F.ex
  subst e
  exact fn_of lk hcd S len fun A outer s H vs Q E hr h => hb A outer s H vs Q E hr h
theorem fn_simXC {N : En} {x qual : Str} {st : Stmt} {f c : Addr} {fd : FuncData} {Ns ps : List Str} {k : Nat} {b : Ss} (F : GXX.FunC N.K x qual st f fd c) (Sc : FnScope Ns ps (defScope st))
    (hb : ∀ (A : Around) (outer : List Env) (s : Shared) (H : Hp) (E : XK), Room k (A.deeper (envOfC qual (defScope st) s.heap.objs.size f (.ref c))) → SSs N (fun cls d _ H => E cls d H) (cxOf (CX P w) P w N.K mg base Ns qual (defScope st) f (.ref c) A outer s H E) (defBody st) b) :
    FnOk P w N.K mg base (CX P w) (k + 1) f fd ps (spOf N ps.length (fnS Ns.length b)) :=
  func_okX F Sc sp_len fun A outer s H vs Q E hr h => body_ok (hb A outer s H E hr) h
end
end Z
/-! ## except C as n: return [n.f, isinstance(n, A)] -/
namespace Z
open PySem PySem.Spec L2 GxR
open PyProof.Rows hiding St
section
variable {N : En} {X : Cx} {a : Addr} {oe : Obj} {cls : Value} {d : Option Addr} {pn : List (Addr × Obj)} {n fld : Str} {C : Addr} {i : Nat} {p1 p2 p3 p4 p5 q1 q2 : Pos} {t1 : Expr} {v1 : V}
def tsLI (K : PySem.W.Frag) (v1 : V) (i : Nat) (C : Addr) (fld : Str) (a : Addr) (cls : Value) (d : Option Addr) : TS :=
  tRet (tLst (tCons (tXf a cls d C fld (tVar i)) (tCons (tCB (rIsX K C cls a d) (tCons (tVar i) (tCons (tC v1) tNil))) tNil)))
theorem su_li (hi : X.N[i]? = some n) (hln : X.env.scope.names.lookup n = some NameKind.local) (T : XfC X.K C) (hno : PySem.W.findIn X.K (.ref C) fld = some none) (E : ExcC X.K C) (hcl : (PySem.W.clsIn X.K C).isSome = true) (hz : Zc cls d oe) (hf : ∃ vs, oe.data = .fields vs)
    (hg : Gl (X.suite a ((a, oe) :: pn)) "isinstance") (hm : X.mg "isinstance" = none) (h1 : PE (X.suite a ((a, oe) :: pn)) t1 (tC v1))
    (hd1 : (n == ("__debug__" : Str)) = false := by decide) (hd2 : (n == ("__classdict__" : Str)) = false := by decide)
    (hb : attributeBase (.Name n p1) fld X.env (eval (.Name n p1) X.env) = eval (.Name n p1) X.env := by rfl)
    (he : starEach [.Name n p3, t1] X.env = (false, eval (.Name n p3) X.env) :: starEach [t1] X.env := by rfl) (he1 : starEach [t1] X.env = (false, eval t1 X.env) :: starEach [] X.env := by rfl)
    (he2 : starEach [.Attribute (.Name n p1) fld p2, .Call (.Name "isinstance" q1) [.Name n p3, t1] [] q2] X.env = (false, eval (.Attribute (.Name n p1) fld p2) X.env) :: starEach [.Call (.Name "isinstance" q1) [.Name n p3, t1] [] q2] X.env := by rfl)
    (he3 : starEach [.Call (.Name "isinstance" q1) [.Name n p3, t1] [] q2] X.env = (false, eval (.Call (.Name "isinstance" q1) [.Name n p3, t1] [] q2) X.env) :: starEach [] X.env := by rfl) :
    PSs (X.suite a ((a, oe) :: pn)) [.Return (some (.List [.Attribute (.Name n p1) fld p2, .Call (.Name "isinstance" q1) [.Name n p3, t1] [] q2] p4)) p5] (tsLI X.K v1 i C fld a cls d) := by
  have pv : ∀ p, PE (X.suite a ((a, oe) :: pn)) (.Name n p) (tVar i) := fun p => pe_var hi (.inl hln) hd1 hd2
  have px := pe_xf (X := X) (a := a) (oe := oe) (pn := pn) (cls := cls) (d := d) (pos := p2) T hno hz hf (pv p1) hb
  have c1 := pe_callB (pos := q2) (p := q1) (call_isX (pn := pn) E hcl hz hf) hg hm (by decide +kernel) (pa_cons (pv p3) (pa_cons h1 pa_nil he1) he) (by decide) (by decide) he (by show (backTo q2 (starEach [t1] X.env)).any _ = false; rw [he1]; rfl)
  exact pss_one (ps_ret (pe_lst (pa_cons px (pa_cons c1 pa_nil he3) he2)))
theorem ok_li {cv1 : Value} (hc1 : ∀ u, RelV v1 u → u = cv1) (k1 : PySem.W.kitOne N.K (.ref C) cv1 = some true) : SuiteOk N i fld C (tsLI N.K v1 i C fld) (fun d => .lst [d, .bl true]) := by
  intro M s σ H D a dx v d r hlt hX hR h
  obtain ⟨fs, h1, h2⟩ := hX
  refine ⟨.ref a, List.getElem?_set_self hlt, rfl, rfl, dx, fs, v, rfl, h1, h2, .ref a, List.getElem?_set_self hlt, v1, cv1, rfl, hc1, rfl, ⟨dx, fs, rfl, h1⟩, k1, (show 2 ≤ sizeLine from by decide), fun p hp => ?_⟩
  have sm : Same H (upd H p (.lst [v, .bl true])) := Same.upd hp
  exact h M _ σ (r.toRelC.ext sm) (r.same sm) (.ref p) (.lst (r.toRelC.fresh hp) upd_same (.cons ((r.toRelC.ext sm).r hR) (.cons (.bl true) .nil)))
end
end Z
/-! ## {word: [ints], word: [ints]}.get(word, [ints]) -/
namespace Z
open PySem PySem.Spec L2 GxR
open PyProof.Rows hiding St
inductive IntsE (X : Cx) : List Expr → List Int → Prop
  | nil : IntsE X [] []
  | cons {i : Int} {j : Nat} {p : Pos} {es : List Expr} {l : List Int} : IntsE X es l → starEach (.Constant (.int i) j p :: es) X.env = (false, eval (.Constant (.int i) j p) X.env) :: starEach es X.env → IntsE X (.Constant (.int i) j p :: es) (i :: l)
theorem IntsE.pa {X : Cx} : ∀ {es : List Expr} {l : List Int}, IntsE X es l → ∃ t, PA X es t ∧ ∀ σ H Q, Q (l.map V.int) H → t σ H Q
  | _, _, .nil => ⟨_, pa_nil, fun σ H Q q => q⟩
  | _, _, .cons h he => by
    obtain ⟨t, p, s⟩ := h.pa
    exact ⟨_, pa_cons pe_int p he, fun σ H Q q => s σ H _ q⟩
def getL (k1 k2 : Nat) (l1 l2 l3 : List Int) (n : Nat) : List Int := if n = k2 then l2 else if n = k1 then l1 else l3
def eGet2 (k1 k2 : Nat) (l1 l2 l3 : List Int) (fk : Ex) : Ex := fun s => (fk s).bind fun y s1 => match y with
  | .str n => .ok (.lst ((getL k1 k2 l1 l2 l3 n).map D.int)) s1
  | _ => .stuck
theorem se_get2 {N : En} {W : WX} {X : Cx} {k1 k2 : Nat} {l1 l2 l3 : List Int} {es1 es2 es3 : List Expr} {e : Expr} {fk : Ex} {j1 j2 : Nat} {q1 q2 p1 p2 p3 dp apos cpos : Pos} {x1 x2 : Str} (hu : X.A.units + 1 < cLine)
    (hx1 : x1 = txt k1) (hx2 : x2 = txt k2) (b1 : k1 < 70) (b2 : k2 < 70) (h1 : IntsE X es1 l1) (h2 : IntsE X es2 l2) (h3 : IntsE X es3 l3) (c1 : l1.length ≤ 1000) (c2 : l2.length ≤ 1000) (c3 : l3.length ≤ 1000) (hk : SE N W X e fk)
    (m : M2 X (.Dict [some (.Constant (.str x1) j1 q1), some (.Constant (.str x2) j2 q2)] [.List es1 p1, .List es2 p2] dp) "get" apos e (.List es3 p3) cpos) :
    SE N W X (.Call (.Attribute (.Dict [some (.Constant (.str x1) j1 q1), some (.Constant (.str x2) j2 q2)] [.List es1 p1, .List es2 p2] dp) "get" apos) [e, .List es3 p3] [] cpos) (eGet2 k1 k2 l1 l2 l3 fk) := by
  obtain ⟨ty, pk, sk⟩ := hk
  obtain ⟨a1, pa1, r1⟩ := h1.pa
  obtain ⟨a2, pa2, r2⟩ := h2.pa
  obtain ⟨a3, pa3, r3⟩ := h3.pa
  refine ⟨_, pe_dget2 hu (pe_disp (pps_cons pe_str (pe_lst pa1) (pps_cons pe_str (pe_lst pa2) pps_nil)) rfl rfl (fun z => nomatch z) (by show 2 ≤ 15; decide)) pk (pe_lst pa3) m, fun M s σ H Q rl q => ?_⟩
  intro p np
  refine r1 σ _ _ ⟨len_line (by rw [List.length_map]; omega), fun u1 n1 => r2 σ _ _ ⟨len_line (by rw [List.length_map]; omega), fun u2 n2 => ?_⟩⟩
  have d1 : u1 ≠ p := fun z => by rw [z, upd_same] at n1; cases n1
  rw [upd_ne d1] at n1
  have d2 : u2 ≠ u1 := fun z => by rw [z, upd_same] at n2; cases n2
  rw [upd_ne d2] at n2
  have d3 : u2 ≠ p := fun z => by rw [z, upd_same] at n2; cases n2
  rw [upd_ne d3] at n2
  refine ⟨by rw [upd_ne (Ne.symm d3), upd_ne (Ne.symm d1), upd_same], [(Sum.inr x1, .ref u1), (Sum.inr x2, .ref u2)], rfl, by show 2 ≤ 15; decide, ?_⟩
  generalize hm : mergeK [] [((Sum.inr x1 : Key), V.ref u1), (Sum.inr x2, V.ref u2)] = kv
  have eH : upd (upd (upd (upd H p (.dK [])) u1 (.lst (l1.map V.int))) u2 (.lst (l2.map V.int))) p (.dK kv) = upd (upd (upd H u1 (.lst (l1.map V.int))) u2 (.lst (l2.map V.int))) p (.dK kv) := by
    funext b
    unfold upd
    by_cases hb : b = p
    · simp [hb]
    · simp [hb]
  rw [eH]
  have s1 : Same H (upd H u1 (.lst (l1.map V.int))) := Same.upd n1
  have n2' : (upd H u1 (.lst (l1.map V.int))) u2 = none := by rw [upd_ne d2]; exact n2
  have s2 := s1.trans (Same.upd (o := .lst (l2.map V.int)) n2')
  have np' : (upd (upd H u1 (.lst (l1.map V.int))) u2 (.lst (l2.map V.int))) p = none := by rw [upd_ne (Ne.symm d3), upd_ne (Ne.symm d1)]; exact np
  have s3 := s2.trans (Same.upd (o := .dK kv) np')
  have f1 := rl.toRelC.fresh n1
  have f2 := rl.toRelC.fresh n2
  have fp := rl.toRelC.fresh np
  refine ⟨p, rfl, .inl ⟨kv, .inl upd_same⟩, ?_⟩
  refine sk M s σ _ _ (rl.same s3) ((q.rebase (rl.toRelC.ext s3)).bind.imp fun M1 H1 y st e1 rr qq v hv => ?_)
  split at qq
  · rename_i n
    obtain ⟨g1, m1⟩ := e1.keep u1 (.lst (l1.map V.int)) (by rw [upd_ne d1, upd_ne (Ne.symm d2), upd_same]) f1 (fun _ z => nomatch z)
    obtain ⟨g2, m2⟩ := e1.keep u2 (.lst (l2.map V.int)) (by rw [upd_ne d3, upd_same]) f2 (fun _ z => nomatch z)
    obtain ⟨gp, _⟩ := e1.keep p (.dK kv) upd_same fp (fun _ z => nomatch z)
    cases hv with
    | str hn =>
      refine r3 σ _ _ ⟨len_line (by rw [List.length_map]; omega), fun u3 n3 => ⟨valV kv (Sum.inr (txt n)), ?_, ?_⟩⟩
      · exact .inl ⟨kv, Sum.inr (txt n), .inl (by rw [upd_ne (fun z => by rw [← z, gp] at n3; cases n3)]; exact gp), rfl, rfl⟩
      · have ev : valV kv (Sum.inr (txt n)) = if n = k2 then some (.ref u2) else if n = k1 then some (.ref u1) else none := by
          rw [← hm]
          show valV (putK (putK [] (Sum.inr x1) (V.ref u1)) (Sum.inr x2) (V.ref u2)) (Sum.inr (txt n)) = _
          rw [valV_put, valV_put, hx1, hx2]
          have t2 : ((Sum.inr (txt n) : Key) = Sum.inr (txt k2)) ↔ n = k2 := ⟨fun z => (txt_inj hn b2).mp (Sum.inr.inj z), fun z => by rw [z]⟩
          have t1 : ((Sum.inr (txt n) : Key) = Sum.inr (txt k1)) ↔ n = k1 := ⟨fun z => (txt_inj hn b1).mp (Sum.inr.inj z), fun z => by rw [z]⟩
          simp only [t1, t2]
          rfl
        have sm : Same H1 (upd H1 u3 (.lst (l3.map V.int))) := Same.upd n3
        have o1 : u1 ≠ u3 := fun z => by rw [← z, g1] at n3; cases n3
        have o2 : u2 ≠ u3 := fun z => by rw [← z, g2] at n3; cases n3
        rw [ev]
        unfold getL at qq
        by_cases e2 : n = k2
        · rw [if_pos e2] at qq ⊢
          exact qq.grown rr sm _ (.lst m2 (by rw [upd_ne o2]; exact g2) (RA.ints _))
        · rw [if_neg e2] at qq ⊢
          by_cases e1' : n = k1
          · rw [if_pos e1'] at qq ⊢
            exact qq.grown rr sm _ (.lst m1 (by rw [upd_ne o1]; exact g1) (RA.ints _))
          · rw [if_neg e1'] at qq ⊢
            exact qq.grown rr sm _ (.lst (rr.toRelC.fresh n3) upd_same (RA.ints _))
  · exact qq.elim
end Z
/-! ## is True, is False, is not True, of truth values -/
namespace Z
open PySem PySem.Spec L2 GxR
open PyProof.Rows hiding St
def isBOp : D → D → Option D
  | .bl a, .bl b => some (.bl (decide (a = b)))
  | _, _ => none
def notBOp : D → D → Option D
  | .bl a, .bl b => some (.bl (!decide (a = b)))
  | _, _ => none
@[simp] theorem x_isB (a b : Bool) : isBOp (.bl a) (.bl b) = some (.bl (decide (a = b))) := Eq.trans rfl rfl
@[simp] theorem x_notB (a b : Bool) : notBOp (.bl a) (.bl b) = some (.bl (!decide (a = b))) := Eq.trans rfl rfl
section
variable {N : En} {W : WX} {X : Cx} {a b : Expr} {pos : Pos} {fa fb : Ex}
theorem sim_isB : OpSim N rIsB isBOp := by
  intro M H cs x y d e z Q rc hx hy hg q
  unfold isBOp at hg
  split at hg
  · cases hg
    exact ⟨_, _, hx.bl, hy.bl, q _ _ (Same.refl _) (.bl _)⟩
  · cases hg
theorem sim_notB : OpSim N rNotB notBOp := by
  intro M H cs x y d e z Q rc hx hy hg q
  unfold notBOp at hg
  split at hg
  · cases hg
    exact ⟨_, _, hx.bl, hy.bl, q _ _ (Same.refl _) (.bl _)⟩
  · cases hg
theorem se_isB (ha : SE N W X a fa) (hb : SB N W X b fb) : SE N W X (.Compare a [.Is] [b] pos) (eOp isBOp fa fb) := se_cmp op_isBl sim_isB ha hb (nomark b)
theorem se_notB (ha : SE N W X a fa) (hb : SB N W X b fb) : SE N W X (.Compare a [.IsNot] [b] pos) (eOp notBOp fa fb) := se_cmp op_notBl sim_notB ha hb (nomark b)
theorem st_isB (ha : SE N W X a fa) (hb : SB N W X b fb) : ST N W X (.Compare a [.Is] [b] pos) (tV (eOp isBOp fa fb)) := st_cmp op_isBl sim_isB ha hb (nomark b)
theorem st_notB (ha : SE N W X a fa) (hb : SB N W X b fb) : ST N W X (.Compare a [.IsNot] [b] pos) (tV (eOp notBOp fa fb)) := st_cmp op_notBl sim_notB ha hb (nomark b)
end
end Z
/-! ## a call without arguments -/
namespace Z
open PySem PySem.Spec L2 GxR
open PyProof.Rows hiding St
def eCall0 (F : Fn) : Ex := fun s => match F [] s.cs with
  | .ok d s2 => .ok d ⟨s.ρ, s2.cs⟩
  | _ => .stuck
section
variable {N : En} {W : WX} {X : Cx}
theorem se_call0 {k : Nat} {f : Addr} {fd : FuncData} {F : Fn} {x : Str} {p pos : Pos} (G : FnOk X.prog X.w X.K X.mg X.base L2.CX0 k f fd [] (spOf N 0 F)) (hr : Room k X.A) (hg : Gl X x) (hm : X.mg x = some (.ref f)) (hk : PySem.W.keepIn X.K (.ref f) = true) (hb : Binds X.K fd [] [])
    (hdb : (x == ("__debug__" : Str)) = false := by decide) : SE N W X (.Call (.Name x p) [] [] pos) (eCall0 F) := by
  refine ⟨_, pe_call0 G hr hg hm hk hb .nil px0' hdb, fun M s σ H Q rl q => ?_⟩
  refine ⟨M.call, [], s.cs, rl.toRelC.call, .nil, rfl, ?_⟩
  unfold eCall0 at q
  cases hF : F [] s.cs with
  | stuck => rw [hF] at q; exact q.elim
  | ok d s2 =>
    rw [hF] at q
    exact fun M' H' v e2 r2 h3 => q _ _ (back_ext e2) (rl.back e2 r2) v ((ext0_back e2).r h3)
  | exc c d s2 => rw [hF] at q; exact q.elim
end
end Z
/-! ## except L as n, L the base of several errors: if isinstance(n, A) [and isinstance(n, B)]: return .. n.f .. -/
namespace Z
open PySem PySem.Spec L2 GxR
open PyProof.Rows hiding St
def rIsY (K : PySem.W.Frag) (cls : Value) (a : Addr) (d : Option Addr) : List V → Hp → VK → Prop := fun xs H Q => ∃ (C : Addr) (c : V) (cv : Value) (b : Bool), xs = [.ref a, c] ∧ (∀ u, RelV c u → u = cv) ∧ cls = .ref C ∧
  (∃ (dd : Addr) (fs : List (Str × V)), d = some dd ∧ H dd = some (.xd fs)) ∧ ExcC K C ∧ (PySem.W.clsIn K C).isSome = true ∧ PySem.W.kitOne K (.ref C) cv = some b ∧ Q (.bl b) H
section
variable {X : Cx} {a : Addr} {oe : Obj} {cls : Value} {d : Option Addr} {pn : List (Addr × Obj)}
theorem call_isY (hz : Zc cls d oe) (hf : ∃ vs, oe.data = .fields vs) : CallR (X.suite a ((a, oe) :: pn)) (.builtin "isinstance") (rIsY X.K cls a d) := by
  intro pins s σ H xs us Q I r h
  obtain ⟨C, c, cv, b, rfl, hcv, ec, ⟨dd, fs, ed, hx⟩, T, hcl, e, q⟩ := h
  subst ec
  subst ed
  obtain ⟨u1, u2, rfl, rx, rt⟩ := r.two
  obtain rfl : u1 = Value.ref a := rx
  have ev := hcv _ rt
  subst ev
  obtain ⟨ha, _⟩ := I.pin (a, oe) (List.mem_append_left _ List.mem_cons_self)
  obtain ⟨vs, hd⟩ := hf
  have hx : ObjOk X.prog X.w H s.heap dd (.xd fs) := I.hok dd _ hx
  obtain ⟨mA, hns, hr⟩ := hx
  obtain ⟨od, ho, hl⟩ := lookIn_ns hns
  have J : PySem.W.InstAt s.heap a oe C (some od) := ⟨ha, hz.1, by unfold PySem.W.notCls; rw [hd] <;> rfl, by rw [hz.2]; exact ho⟩
  exact PySem.W.kia_one (PySem.W.kitx_exc hcl T.hg T.hk T.hs T.ha T.hn T.ht T.hm) I.kIn J e (fun z => nomatch z) fun tk => ⟨.bl b, H, I.kept (t' := tk) fun _ _ z => z, rfl, q⟩
end
/-- the test of one class, of two -/
def tI1 (K : PySem.W.Frag) (a : Addr) (cls : Value) (d : Option Addr) (i : Nat) (v : V) : TT := L2.tB (tCB (rIsY K cls a d) (tCons (tVar i) (tCons (tC v) tNil)))
def tI2 (K : PySem.W.Frag) (a : Addr) (cls : Value) (d : Option Addr) (i : Nat) (v w : V) : TT := tAnd (tI1 K a cls d i v) (tI1 K a cls d i w)
section
variable {N : En} {X : Cx} {a : Addr} {oe : Obj} {cls : Value} {d : Option Addr} {pn : List (Addr × Obj)} {n fld : Str} {C : Addr} {i : Nat} {p1 p2 p3 p4 p5 p6 q1 q2 q3 q4 q5 q6 : Pos} {t1 t2 : Expr} {v1 v2 : V} {k : Nat}
structure SuX (X : Cx) (a : Addr) (oe : Obj) (cls : Value) (d : Option Addr) (pn : List (Addr × Obj)) (n : Str) (i : Nat) : Prop where
  hi : X.N[i]? = some n
  hln : X.env.scope.names.lookup n = some NameKind.local
  hz : Zc cls d oe
  hf : ∃ vs, oe.data = .fields vs
  hg : Gl (X.suite a ((a, oe) :: pn)) "isinstance"
  hm : X.mg "isinstance" = none
  hd1 : (n == ("__debug__" : Str)) = false
  hd2 : (n == ("__classdict__" : Str)) = false
theorem SuX.pv (u0 : SuX X a oe cls d pn n i) (p : Pos) : PE (X.suite a ((a, oe) :: pn)) (.Name n p) (tVar i) := pe_var u0.hi (.inl u0.hln) u0.hd1 u0.hd2
theorem SuX.is1 (u0 : SuX X a oe cls d pn n i) (h1 : PE (X.suite a ((a, oe) :: pn)) t1 (tC v1))
    (he : starEach [.Name n p1, t1] X.env = (false, eval (.Name n p1) X.env) :: starEach [t1] X.env := by rfl) (he1 : starEach [t1] X.env = (false, eval t1 X.env) :: starEach [] X.env := by rfl) :
    PT (X.suite a ((a, oe) :: pn)) (.Call (.Name "isinstance" q1) [.Name n p1, t1] [] q2) (tI1 X.K a cls d i v1) :=
  pt_val (pe_callB (pos := q2) (p := q1) (call_isY (pn := pn) u0.hz u0.hf) u0.hg u0.hm (by decide +kernel) (pa_cons (u0.pv p1) (pa_cons h1 pa_nil he1) he) (by decide) (by decide) he (by show (backTo q2 (starEach [t1] X.env)).any _ = false; rw [he1]; rfl))
theorem SuX.is2 (u0 : SuX X a oe cls d pn n i) (h1 : PE (X.suite a ((a, oe) :: pn)) t1 (tC v1)) (h2 : PE (X.suite a ((a, oe) :: pn)) t2 (tC v2))
    (he : starEach [.Name n p1, t1] X.env = (false, eval (.Name n p1) X.env) :: starEach [t1] X.env := by rfl) (he1 : starEach [t1] X.env = (false, eval t1 X.env) :: starEach [] X.env := by rfl)
    (he' : starEach [.Name n p2, t2] X.env = (false, eval (.Name n p2) X.env) :: starEach [t2] X.env := by rfl) (he1' : starEach [t2] X.env = (false, eval t2 X.env) :: starEach [] X.env := by rfl) :
    PT (X.suite a ((a, oe) :: pn)) (.BoolOp .And [.Call (.Name "isinstance" q1) [.Name n p1, t1] [] q2, .Call (.Name "isinstance" q3) [.Name n p2, t2] [] q4] q5) (tI2 X.K a cls d i v1 v2) :=
  (pw_and (u0.is1 h1 he he1) (pw_and1 (u0.is1 h2 he' he1'))).pt
theorem SuX.fldT (u0 : SuX X a oe cls d pn n i) (T : XfC X.K C) (hno : PySem.W.findIn X.K (.ref C) fld = some none) (hb : attributeBase (.Name n p1) fld X.env (eval (.Name n p1) X.env) = eval (.Name n p1) X.env := by rfl) :
    PE (X.suite a ((a, oe) :: pn)) (.Attribute (.Name n p1) fld p2) (tXf a cls d C fld (tVar i)) := pe_xf (X := X) (a := a) (oe := oe) (pn := pn) (cls := cls) (d := d) (pos := p2) T hno u0.hz u0.hf (u0.pv p1) hb
/-! what a suite does for one class: SuiteOk -/
def tX (i : Nat) (C : Addr) (fld : Str) (a : Addr) (cls : Value) (d : Option Addr) : TE := tXf a cls d C fld (tVar i)
/-- a test's answer for the class C0 -/
def Tells (N : En) (i : Nat) (C0 : Addr) (tt : Addr → Value → Option Addr → TT) (b : Bool) : Prop := ∀ (a dx : Addr) (σ : St) (H : Hp) (Q : Bool → Hp → Prop) (fs : List (Str × V)), σ[i]? = some (some (.ref a)) → H dx = some (.xd fs) → Q b H → tt a (.ref C0) (some dx) σ H Q
theorem tells1 {C0 : Addr} {c : V} {cv : Value} {b : Bool} (E : ExcC N.K C0) (hcl : (PySem.W.clsIn N.K C0).isSome = true) (hc : ∀ u, RelV c u → u = cv) (hk : PySem.W.kitOne N.K (.ref C0) cv = some b) :
    Tells N i C0 (fun a cls d => tI1 N.K a cls d i c) b := fun a dx σ H Q fs h1 h2 q => ⟨.ref a, h1, C0, c, cv, b, rfl, hc, rfl, ⟨dx, fs, rfl, h2⟩, E, hcl, hk, b, rfl, q⟩
theorem tells2t {C0 : Addr} {c c' : V} {cv cv' : Value} {b : Bool} (E : ExcC N.K C0) (hcl : (PySem.W.clsIn N.K C0).isSome = true) (hc : ∀ u, RelV c u → u = cv) (hk : PySem.W.kitOne N.K (.ref C0) cv = some true) (hc' : ∀ u, RelV c' u → u = cv') (hk' : PySem.W.kitOne N.K (.ref C0) cv' = some b) :
    Tells N i C0 (fun a cls d => tI2 N.K a cls d i c c') b := fun a dx σ H Q fs h1 h2 q => tells1 E hcl hc hk a dx σ H _ fs h1 h2 (iteT (tells1 E hcl hc' hk' a dx σ H _ fs h1 h2 q))
theorem tells2f {C0 : Addr} {c c' : V} {cv : Value} (E : ExcC N.K C0) (hcl : (PySem.W.clsIn N.K C0).isSome = true) (hc : ∀ u, RelV c u → u = cv) (hk : PySem.W.kitOne N.K (.ref C0) cv = some false) :
    Tells N i C0 (fun a cls d => tI2 N.K a cls d i c c') false := fun a dx σ H Q fs h1 h2 q => tells1 E hcl hc hk a dx σ H _ fs h1 h2 (iteF q)
abbrev TSx := Addr → Value → Option Addr → TS
def tsIf (tt : Addr → Value → Option Addr → TT) (r u : TSx) : TSx := fun a cls d => tSeq (tIfS (tt a cls d) (r a cls d) tNext) (u a cls d)
theorem ok_ifT {C0 : Addr} {g : D → D} {tt : Addr → Value → Option Addr → TT} {r u : TSx} (h : Tells N i C0 tt true) (hr : SuiteOk N i fld C0 r g) (hret : ∀ (a dx : Addr) (σ : St) (H : Hp) (D D' : Ends), D.rt = D'.rt → r a (.ref C0) (some dx) D σ H → r a (.ref C0) (some dx) D' σ H) : SuiteOk N i fld C0 (tsIf tt r u) g := by
  intro M s σ H D a dx v d rl hlt hX hR q
  obtain ⟨fs, h1, h2⟩ := hX
  refine h a dx _ H _ fs (List.getElem?_set_self hlt) h1 ?_
  refine iteT (hret a dx _ H D _ rfl ?_)
  exact hr M s σ H D a dx v d rl hlt ⟨fs, h1, h2⟩ hR q
theorem ok_ifF {C0 : Addr} {g : D → D} {tt : Addr → Value → Option Addr → TT} {r u : TSx} (h : Tells N i C0 tt false) (hu : SuiteOk N i fld C0 u g) : SuiteOk N i fld C0 (tsIf tt r u) g := by
  intro M s σ H D a dx v d rl hlt hX hR q
  obtain ⟨fs, h1, h2⟩ := hX
  refine h a dx _ H _ fs (List.getElem?_set_self hlt) h1 ?_
  refine iteF ?_
  exact hu M s σ H D a dx v d rl hlt ⟨fs, h1, h2⟩ hR q
theorem ret_rt {ta : Addr → Value → Option Addr → TE} {C0 : Addr} : ∀ (a dx : Addr) (σ : St) (H : Hp) (D D' : Ends), D.rt = D'.rt → (fun a cls d => tRet (ta a cls d) : TSx) a (.ref C0) (some dx) D σ H → (fun a cls d => tRet (ta a cls d) : TSx) a (.ref C0) (some dx) D' σ H := by
  intro a dx σ H D D' e h
  show ta a (.ref C0) (some dx) σ H D'.rt
  rw [← e]
  exact h
/-- return n.f, [n.f], (n.f,), (w, n.f), (w,) -/
def tsR0 (i : Nat) (C : Addr) (fld : Str) : TSx := fun a cls d => tRet (tX i C fld a cls d)
def tsRl (i : Nat) (C : Addr) (fld : Str) : TSx := fun a cls d => tRet (tLst (tCons (tX i C fld a cls d) tNil))
def tsRt (K : PySem.W.Frag) (i : Nat) (C : Addr) (fld : Str) : TSx := fun a cls d => tRet (tTup (tCons (tX i C fld a cls d) tNil))
def tsRw (K : PySem.W.Frag) (i : Nat) (w : Nat) (C : Addr) (fld : Str) : TSx := fun a cls d => tRet (tTup (tCons (tC (.str (txt w))) (tCons (tX i C fld a cls d) tNil)))
def tsRo (K : PySem.W.Frag) (w : Nat) : TSx := fun _ _ _ => tRet (tTup (tCons (tC (.str (txt w))) tNil))
theorem ret_0 {C0 : Addr} : ∀ (a dx : Addr) (σ : St) (H : Hp) (D D' : Ends), D.rt = D'.rt → tsR0 i C fld a (.ref C0) (some dx) D σ H → tsR0 i C fld a (.ref C0) (some dx) D' σ H := ret_rt (ta := fun a cls d => tX i C fld a cls d)
theorem ret_l {C0 : Addr} : ∀ (a dx : Addr) (σ : St) (H : Hp) (D D' : Ends), D.rt = D'.rt → tsRl i C fld a (.ref C0) (some dx) D σ H → tsRl i C fld a (.ref C0) (some dx) D' σ H := ret_rt (ta := fun a cls d => tLst (tCons (tX i C fld a cls d) tNil))
theorem ret_t {K : PySem.W.Frag} {C0 : Addr} : ∀ (a dx : Addr) (σ : St) (H : Hp) (D D' : Ends), D.rt = D'.rt → tsRt K i C fld a (.ref C0) (some dx) D σ H → tsRt K i C fld a (.ref C0) (some dx) D' σ H := ret_rt (ta := fun a cls d => tTup (tCons (tX i C fld a cls d) tNil))
theorem ret_w {K : PySem.W.Frag} {w : Nat} {C0 : Addr} : ∀ (a dx : Addr) (σ : St) (H : Hp) (D D' : Ends), D.rt = D'.rt → tsRw K i w C fld a (.ref C0) (some dx) D σ H → tsRw K i w C fld a (.ref C0) (some dx) D' σ H := ret_rt (ta := fun a cls d => tTup (tCons (tC (.str (txt w))) (tCons (tX i C fld a cls d) tNil)))
theorem ok_r0 : SuiteOk N i fld C (tsR0 i C fld) (fun d => d) := ok_f
theorem ok_rl : SuiteOk N i fld C (tsRl i C fld) (fun d => .lst [d]) := ok_l
theorem ok_rt {K : PySem.W.Frag} : SuiteOk N i fld C (tsRt K i C fld) (fun d => .tup [d]) := by
  intro M s σ H D a dx v d r hlt hX hR h
  obtain ⟨fs, h1, h2⟩ := hX
  refine ⟨.ref a, List.getElem?_set_self hlt, rfl, rfl, dx, fs, v, rfl, h1, h2, (show 1 ≤ sizeLine from by decide), fun p hp => ?_⟩
  have sm : Same H (upd H p (.tup [v])) := Same.upd hp
  exact h M _ σ (r.toRelC.ext sm) (r.same sm) (.ref p) (.tup (.inl ⟨r.toRelC.fresh hp, .inl upd_same⟩) (.cons ((r.toRelC.ext sm).r hR) .nil))
theorem ok_rw {K : PySem.W.Frag} {w : Nat} (hw : w < 70) : SuiteOk N i fld C (tsRw K i w C fld) (fun d => .tup [.str w, d]) := by
  intro M s σ H D a dx v d r hlt hX hR h
  obtain ⟨fs, h1, h2⟩ := hX
  refine ⟨.ref a, List.getElem?_set_self hlt, rfl, rfl, dx, fs, v, rfl, h1, h2, (show 2 ≤ sizeLine from by decide), fun p hp => ?_⟩
  have sm : Same H (upd H p (.tup [.str (txt w), v])) := Same.upd hp
  exact h M _ σ (r.toRelC.ext sm) (r.same sm) (.ref p) (.tup (.inl ⟨r.toRelC.fresh hp, .inl upd_same⟩) (.cons (.str hw) (.cons ((r.toRelC.ext sm).r hR) .nil)))
/-- one clause over the base class of several errors -/
structure HdB (N : En) (CB : Addr) (i : Nat) (ts : TSx) (h : Nat × Nat × (D → D)) : Prop where
  ok : ∃ C fld, N.CT h.1 = some (C, fld) ∧ PySem.W.exmOne N.K (.ref C) (.ref CB) = some true ∧ SuiteOk N i fld C ts h.2.2
  eq : h.2.1 = i
theorem findH_mem {hs : List (Nat × Nat × (D → D))} {c : Nat} {p : Nat × (D → D)} (h : findH hs c = some p) : (c, p.1, p.2) ∈ hs := by
  induction hs with
  | nil => cases h
  | cons x r ih =>
    obtain ⟨c0, i0, g0⟩ := x
    rw [findH] at h
    split at h
    · rename_i e
      subst e
      cases h
      exact List.mem_cons_self
    · exact List.mem_cons_of_mem _ (ih h)
end
section
variable {N : En} {W : WX} {X : Cx} {body : List Stmt} {h₀ : ExceptHandler} {hs : List (Nat × Nat × (D → D))} {fb : Ss} {pos : Pos} {CB : Addr} {i : Nat} {ts : TSx}
theorem ss_tryB (hK : X.K = N.K) (hst : X.stack = X.env :: X.outer) (hf : X.env.frame = some X.env.locals) (hN : X.N.Nodup) (tk : Takes X W)
    (hb : ∀ (W' : WX) (pn : List (Addr × Obj)) (xe : Value → Shared → Prop), Takes (X.tr pn xe) W' → SSs N W' (X.tr pn xe) body fb)
    (hc : Clauses X [h₀] [(.ref CB, i, ts)]) (hh : ∀ h ∈ hs, HdB N CB i ts h) : SS N W X (.Try body [h₀] [] [] pos) (sTryN hs fb) := by
  refine ⟨_, ps_try_named (tb := fun W' => canS N W' fb) hst hf hN tk (fun W' pn xe tk' _ => (hb W' pn xe tk').can) hc, fun M s σ H D' rl q => ⟨M, s, rl, ?_⟩⟩
  unfold sTryN at q
  cases hr : fb s with
  | ok fl s1 => rw [hr] at q; exact q
  | stuck => rw [hr] at q; exact q
  | exc c d s1 =>
    rw [hr] at q
    dsimp only at q
    cases hfi : findH hs c with
    | none => rw [hfi] at q; exact q.elim
    | some p =>
      obtain ⟨j, g⟩ := p
      rw [hfi] at q
      dsimp only at q
      by_cases hlt : j < s1.ρ.length
      · rw [if_pos hlt] at q
        intro M' H' σ' C fld dx v e r hct hX hR
        rw [hK]
        obtain ⟨⟨C', fld', k1, k2, k3⟩, k4⟩ := hh _ (findH_mem hfi)
        have h2 := hct.symm.trans k1
        simp only [Option.some.injEq, Prod.mk.injEq] at h2
        obtain ⟨rfl, rfl⟩ := h2
        have k4 : j = i := k4
        subst k4
        exact ⟨true, k2, fun _ a na => k3 M' s1 σ' H' (endsOf j D') a dx v d r (by rw [r.len]; exact hlt) hX hR fun M2 H2 σ2 e2 r2 u hu => q M2 H2 σ2 (e.trans e2) r2 u hu, fun z => nomatch z⟩
      · rw [if_neg hlt] at q
        exact q.elim
end
theorem exm_base {K : PySem.W.Frag} {S S' : Addr} (h1 : PySem.W.subIn K (.ref S) (.type "BaseException") = some true) (h2 : PySem.W.isClsIn K S = true) (h3 : PySem.W.typeIn K (.ref S) = some (.type "type")) (h4 : PySem.W.subIn K (.ref S') (.ref S) = some true) : PySem.W.exmOne K (.ref S') (.ref S) = some true := by
  have h5 : (PySem.W.clsIn K S).isSome = true := h2
  simp [PySem.W.exmOne, PySem.W.kitCls, h1, h3, h4, h5]
theorem kit_no {K : PySem.W.Frag} {C L : Addr} (h1 : PySem.W.isClsIn K L = true) (h2 : PySem.W.typeIn K (.ref L) = some (.type "type")) (hs : PySem.W.subIn K (.ref L) (.ref L) = some true) (h3 : PySem.W.subIn K (.ref C) (.ref L) = some false) : PySem.W.kitOne K (.ref C) (.ref L) = some false := by
  have h5 : (PySem.W.clsIn K L).isSome = true := h1
  unfold PySem.W.kitOne
  split
  · rename_i h
    have h : C = L := by simpa using h
    subst h
    rw [hs] at h3
    cases h3
  · simp [PySem.W.kitCls, h2, h3, h5]
end Z
/-! ## tuples times any number -/
namespace Z
open PySem PySem.Spec L2 GxR
open PyProof.Rows hiding St
def mulT : D → D → Option D
  | .tup a, .int j => if a = [] then none else if j = 1 then some (.tup a) else if j = 0 then some (.tup []) else if 2 ≤ j ∧ j ≤ 1000 ∧ a.length ≤ 1000 then some (.tup (List.replicate j.toNat a).flatten) else none
  | _, _ => none
@[simp] theorem x_mulT (a : List D) (j : Int) : mulT (.tup a) (.int j) = if a = [] then none else if j = 1 then some (.tup a) else if j = 0 then some (.tup []) else if 2 ≤ j ∧ j ≤ 1000 ∧ a.length ≤ 1000 then some (.tup (List.replicate j.toNat a).flatten) else none := Eq.trans rfl rfl
section
variable {N : En} {W : WX} {X : Cx} {a b : Expr} {pos : Pos} {fa fb : Ex}
theorem op_mulT : OpR X (binaryOp .Mult) (fun x y H Q => rRep01 X.K x y H Q ∨ rRepT X.K x y H Q) := by
  intro pins s σ H x y v u Q I rx ry h
  rcases h with h | h
  · exact op_rep01 pins s σ H x y v u Q I rx ry h
  · exact op_repT pins s σ H x y v u Q I rx ry h
theorem sim_mulT : OpSim N (fun x y H Q => rRep01 N.K x y H Q ∨ rRepT N.K x y H Q) mulT := by
  intro M H cs x y d e z Q rc hx hy hg q
  unfold mulT at hg
  split at hg
  · rename_i l j
    split at hg
    · cases hg
    · rename_i hne
      by_cases h1 : j = 1
      · rw [if_pos h1] at hg
        exact .inl (sim_mul01 M H cs x y (.tup l) (.int j) z Q rc hx hy (by show (if l = [] then none else _) = _; rw [if_neg hne, if_pos h1]; exact hg) q)
      · by_cases h0 : j = 0
        · rw [if_neg h1, if_pos h0] at hg
          exact .inl (sim_mul01 M H cs x y (.tup l) (.int j) z Q rc hx hy (by show (if l = [] then none else _) = _; rw [if_neg hne, if_neg h1, if_pos h0]; exact hg) q)
        · rw [if_neg h1, if_neg h0] at hg
          split at hg
          · rename_i hc
            cases hg
            obtain ⟨a, xs, rfl, h1, h2⟩ := hx.tup
            have e2 := hy.int
            subst e2
            exact .inr ⟨a, _, xs, rfl, rfl, h1.sq, fun z => hne (h2.nil_iff.mp z), hc.1, hc.2.1, by rw [h2.length]; exact hc.2.2, fun p np => q _ _ (Same.upd np) (rc.newTup np (h2.rep _))⟩
          · cases hg
  · cases hg
theorem se_mulT (ha : SE N W X a fa) (hb : SB N W X b fb) (hK : X.K = N.K := by rfl) : SE N W X (.BinOp a .Mult b pos) (eOp mulT fa fb) := se_op (hK ▸ op_mulT) sim_mulT ha hb
end
end Z
/-! ## a list of ours and another one, put together: a new one -/
namespace Z
open PySem PySem.Spec L2 GxR
open PyProof.Rows hiding St
def aCatL (i : Nat) (fb : Ex) : As := fun s => match slotD i s with
  | some _ => (fb s).bind fun y s2 => (match slotD i s2, y with
    | some (.lst a), .lst b => if a.length + b.length ≤ 100000 then .ok (a ++ b) s2 else .stuck
    | _, _ => .stuck)
  | none => .stuck
section
variable {N : En} {W : WX} {X : Cx} {a b : Expr} {pos : Pos} {fa fb : Ex}
theorem sf_catL (i : Nat) (pa : PE X a (tVar i)) (hb : SB N W X b fb) (hK : X.K = N.K := by rfl) : SF N W X (.BinOp a .Add b pos) (aCatL i fb) := by
  obtain ⟨tb, pb, sb⟩ := hb
  refine ⟨_, pe_op (o_add hK) pa pb, fun M s σ H Q rl q => ?_⟩
  unfold aCatL at q
  split at q
  · rename_i d0 h0
    obtain ⟨v, k1, _⟩ := slot_rb rl h0
    refine ⟨v, k1, ?_⟩
    refine sb M s σ H _ rl (q.bind.imp fun M2 H2 y s2 e2 r2 q2 v2 h2 => ?_)
    split at q2
    · rename_i x l m hx
      obtain ⟨v', k1', k2⟩ := slot_rb r2 hx
      rw [k1] at k1'
      cases k1'
      split at q2
      · rename_i hl
        obtain ⟨c, xs, rfl, h1, h2'⟩ := k2.list
        obtain ⟨d, ys, rfl, h3, h4⟩ := h2.list
        refine .inr (.inr ⟨c, d, xs, ys, rfl, rfl, h1, h3, len_line (by rw [h2'.length, h4.length]; exact hl), fun p np => ?_⟩)
        obtain ⟨_, e⟩ := r2.toRelC.laid (xs := xs ++ ys) np
        exact q2 _ _ e (r2.laid np) p (xs ++ ys) (e2.fresh rl.toRelC np) own1_same upd_same (e.ra (h2'.append h4))
      · exact q2.elim
    · exact q2.elim
  · exact q.elim
end
end Z
/-! ## a def that returns a new list, and its call where a list is wanted -/
namespace Z
open PySem PySem.Spec L2 GxR
open PyProof.Rows hiding St
def GoodFL (N : En) (M : MM) (H : Hp) (r : Res D) (Q : VK) (E : XK) : Prop := match r with
  | .ok d s => ∃ l, d = .lst l ∧ ∀ M' H' p xs, Ext M H M' H' → RelC N M' s.cs H' → Fresh M H p → M' p = some .far → H' p = some (.lst xs) → RA N.K M' H' xs l → Q (.ref p) H'
  | .exc c d s => ∀ M' H' C fld dx v, Ext M H M' H' → RelC N M' s.cs H' → N.CT c = some (C, fld) → XD H' dx fld v → R N.K M' H' v d → E (.ref C) (some dx) H'
  | .stuck => False
def spOfL (N : En) (n : Nat) (F : Fn) : Sp := fun vs H Q E => ∃ M ds cs, RelC N M cs H ∧ RA N.K M H vs ds ∧ ds.length = n ∧ GoodFL N M H (F ds cs) Q E
def aCallL (F : Fn) (fs : As) : As := fun s => (fs s).bind fun ds s1 => match F ds s1.cs with
  | .ok (.lst l) s2 => .ok l ⟨s1.ρ, s2.cs⟩
  | .exc c d s2 => .exc c d ⟨s1.ρ, s2.cs⟩
  | _ => .stuck
def sRetL (f : As) : Ss := fun s => (f s).bind fun l s1 => .ok (.rt (.lst l)) s1
def sConsN (f g : Ss) : Ss := fun s => (f s).bind fun fl s1 => match fl with
  | .nx => g s1
  | .rt _ => .stuck
def SimL (N : En) (W : WX) (t : TS) (f : Ss) : Prop := ∀ M s σ H (D : Ends), Rel N M s σ H → GoodS N W M H (f s) (fun M' H' _ fl _ => ∃ l, fl = .rt (.lst l) ∧ ∀ p xs, Fresh M H p → M' p = some .far → H' p = some (.lst xs) → RA N.K M' H' xs l → D.rt (.ref p) H') → t D σ H
def SSL (N : En) (W : WX) (X : Cx) (st : List Stmt) (f : Ss) : Prop := ∃ t, PSs X st t ∧ SimL N W t f
section
variable {N : En} {W : WX} {X : Cx} {M M' : MM} {H H' : Hp} {cs cs' : List Cell} {s : S} {σ : St} {pos p : Pos} {e : Expr} {st : Stmt} {rest : List Stmt} {f f' : Ss}
theorem Fresh.base (e : Ext M H M' H') (r : RelC N M cs H) {p : Addr} (h : Fresh M' H' p) : Fresh M H p := by
  have q : ∀ o, H p = some o → (∀ ps, o ≠ .tbl ps) → False := fun o ho n => by
    obtain ⟨o', h1, n1⟩ := e.dom p o ho n
    obtain ⟨ps, h2⟩ := h.2 o' h1
    exact n1 ps h2
  refine ⟨?_, fun o ho => ?_⟩
  · cases m : M p with
    | none => rfl
    | some w =>
      obtain ⟨o, ho, n⟩ := r.mdom p w m
      exact (q o ho n).elim
  · cases o with
    | tbl ps => exact ⟨ps, rfl⟩
    | _ => exact (q _ ho (fun _ z => nomatch z)).elim
theorem ssl_cons (h : SS N W X st f) (h' : SSL N W X rest f') : SSL N W X (st :: rest) (sConsN f f') := by
  obtain ⟨t, pt, h⟩ := h
  obtain ⟨u, pu, h'⟩ := h'
  refine ⟨_, pss_cons pt pu, fun M s σ H D rl q => h M s σ H _ rl (q.bind.imp fun M1 H1 σ1 fl s1 e1 r1 q1 => ?_)⟩
  cases fl with
  | nx => exact h' M1 s1 σ1 H1 D r1 (q1.imp fun M2 H2 σ2 fl2 s2 e2 r2 q2 => by
      obtain ⟨l, hl, k⟩ := q2
      exact ⟨l, hl, fun p xs fr => k p xs (fr.base e1 rl.toRelC)⟩)
  | rt d => exact q1.elim
theorem ssl_ret {fl : As} (he : SF N W X e fl) : SSL N W X [.Return (some e) pos] (sRetL fl) := by
  obtain ⟨t, pt, h⟩ := he
  refine ⟨_, pss_one (ps_ret pt), fun M s σ H D rl q => h M s σ H _ rl ?_⟩
  unfold sRetL at q
  cases hf : fl s with
  | stuck => rw [hf] at q; exact q.elim
  | exc c d s1 => rw [hf] at q; exact q
  | ok ds s1 =>
    rw [hf] at q
    refine fun M1 H1 e1 r1 p xs fr m hp h1 => ?_
    obtain ⟨l, hl, k⟩ := q M1 H1 σ e1 r1
    cases hl
    exact k p xs fr m hp h1
theorem body_okL {b : Ss} {st : List Stmt} {Ns ps : List Str} {vs : List V} {Q : VK} {E : XK} (hb : SSL N (fun cls d _ H => E cls d H) X st b) (h : spOfL N ps.length (fnS Ns.length b) vs H Q E) : ∃ t, PSs X st t ∧ t { nx := fun _ H' => Q .non H', rt := Q } (L2.start Ns vs) H := by
  obtain ⟨t, pt, sim⟩ := hb
  obtain ⟨M, ds, cs, rc, ha, hl, g⟩ := h
  refine ⟨t, pt, sim M _ _ H _ (start_rel rc ha (by rw [ha.length])) ?_⟩
  unfold fnS at g
  cases hF : b ⟨ds.map .sv ++ List.replicate (Ns.length - ds.length) .un, cs⟩ with
  | stuck => rw [hF] at g; exact g.elim
  | exc c d s =>
    rw [hF] at g
    exact fun M' H' σ' C fld dx v e r hc hX hR => g M' H' C fld dx v e r.toRelC hc hX hR
  | ok fl s =>
    rw [hF] at g
    cases fl with
    | nx =>
      obtain ⟨l, hl, _⟩ := g
      cases hl
    | rt d =>
      obtain ⟨l, hl, k⟩ := g
      refine fun M' H' σ' e r => ⟨l, by rw [hl], fun p xs fr m hp ha => k M' H' p xs e r.toRelC fr m hp ha⟩
theorem body_okL0 {b : Ss} {st : List Stmt} {Ns ps : List Str} {vs : List V} {Q : VK} {E : XK} (hb : SSL N WF X st b) (h : spOfL N ps.length (fnS0 Ns.length b) vs H Q E) : ∃ t, PSs X st t ∧ t { nx := fun _ H' => Q .non H', rt := Q } (L2.start Ns vs) H := by
  obtain ⟨t, pt, sim⟩ := hb
  obtain ⟨M, ds, cs, rc, ha, hl, g⟩ := h
  refine ⟨t, pt, sim M _ _ H _ (start_rel rc ha (by rw [ha.length])) ?_⟩
  unfold fnS0 at g
  cases hF : b ⟨ds.map .sv ++ List.replicate (Ns.length - ds.length) .un, cs⟩ with
  | stuck => rw [hF] at g; exact g.elim
  | exc c d s => rw [hF] at g; exact g.elim
  | ok fl s =>
    rw [hF] at g
    cases fl with
    | nx =>
      obtain ⟨l, hl, _⟩ := g
      cases hl
    | rt d =>
      obtain ⟨l, hl, k⟩ := g
      refine fun M' H' σ' e r => ⟨l, by rw [hl], fun p xs fr m hp ha => k M' H' p xs e r.toRelC fr m hp ha⟩
theorem sp_lenL {ps : List Str} {F : Fn} : ∀ vs H Q E, spOfL N ps.length F vs H Q E → vs.length = ps.length := fun vs H Q E h => by
  obtain ⟨M, ds, cs, rc, ha, hl, g⟩ := h
  rw [ha.length, hl]
/-- f(..), f a def that returns a new list -/
theorem sf_callL {CX : CXT} {k n : Nat} {f : Addr} {fd : FuncData} {ps : List Str} {F : Fn} {x : Str} {p pos : Pos} {e : Expr} {es : List Expr} {fs : As} (G : FnOk X.prog X.w X.K X.mg X.base CX k f fd ps (spOfL N n F)) (hr : Room k X.A) (hg : Gl X x) (hm : X.mg x = some (.ref f)) (hk : PySem.W.keepIn X.K (.ref f) = true) (hb : Binds X.K fd ps [])
    (hx : ∀ σ, PassesAt CX X σ (WE W σ)) (ha : SA N W X (e :: es) fs) (hn : (e :: es).length = n := by rfl) (hdb : (x == ("__debug__" : Str)) = false := by decide) (he : starEach (e :: es) X.env = (false, eval e X.env) :: starEach es X.env := by rfl) (hpl : (backTo pos (starEach es X.env)).any (·.1) = false := by rfl) :
    SF N W X (.Call (.Name x p) (e :: es) [] pos) (aCallL F fs) := by
  obtain ⟨t, pt, st, hl⟩ := ha
  refine ⟨_, pe_callS G hr hg hm hk hb hx pt hdb he hpl, fun M s σ H Q rl q => sa_run (es := e :: es) st hl rl q fun M1 H1 ds s1 vs e1 r1 q1 h1 h2 => ?_⟩
  refine ⟨M1.call, ds, s1.cs, r1.toRelC.call, ext0_call.ra h1, h2.trans hn, ?_⟩
  cases hF : F ds s1.cs with
  | stuck => rw [hF] at q1; exact q1.elim
  | ok d s2 =>
    rw [hF] at q1
    cases d with
    | lst l =>
      refine ⟨l, rfl, fun M' H' p xs e2 r2 fr m hp h3 => ?_⟩
      have fr1 : Fresh M1 H1 p := ⟨call_none.mp fr.1, fr.2⟩
      refine q1 _ _ (back_ext e2) (r1.back e2 r2) p xs (fr1.base e1 rl.toRelC) ?_ hp ((ext0_back e2).ra h3)
      unfold MM.back
      rw [fr1.1]
      dsimp only
      rw [m]
    | _ => exact q1.elim
  | exc c d s2 =>
    rw [hF] at q1
    exact fun M' H' C fld dx v e2 r2 hc hX h3 => q1 _ _ σ C fld dx v (back_ext e2) (r1.back e2 r2) hc hX ((ext0_back e2).r h3)
end
section
variable {N : En} {P : Program} {w : World} {mg : Str → Option Value} {base : Heap}
theorem fn_simL {x qual : Str} {st : Stmt} {f : Addr} {fd : FuncData} {Ns ps : List Str} {k : Nat} {b : Ss} (F : Fun N.K x qual st f fd) (Sc : FnScope Ns ps (defScope st))
    (hb : ∀ (cdv : Value) (A : Around) (outer : List Env) (s : Shared) (H : Hp) (E : XK), Room k (A.deeper (envOfC qual (defScope st) s.heap.objs.size f cdv)) → SSL N (fun cls d _ H => E cls d H) (cxOf (CX P w) P w N.K mg base Ns qual (defScope st) f cdv A outer s H E) (defBody st) b) :
    FnOk P w N.K mg base (CX P w) (k + 1) f fd ps (spOfL N ps.length (fnS Ns.length b)) :=
  F.okX Sc sp_lenL fun cdv A outer s H vs Q E hr h => body_okL (hb cdv A outer s H E hr) h
theorem fn_simL0 {x qual : Str} {st : Stmt} {f : Addr} {fd : FuncData} {Ns ps : List Str} {k : Nat} {b : Ss} (F : Fun N.K x qual st f fd) (Sc : FnScope Ns ps (defScope st))
    (hb : ∀ (cdv : Value) (A : Around) (outer : List Env) (s : Shared) (H : Hp) (E : XK), Room k (A.deeper (envOfC qual (defScope st) s.heap.objs.size f cdv)) → SSL N WF (cxOf L2.CX0 P w N.K mg base Ns qual (defScope st) f cdv A outer s H E).nox (defBody st) b) :
    FnOk P w N.K mg base L2.CX0 (k + 1) f fd ps (spOfL N ps.length (fnS0 Ns.length b)) :=
  F.ok Sc sp_lenL fun cdv A outer s H vs Q E hr h => body_okL0 (hb cdv A outer s H E hr) h
end
/-! ### a call that only reads a list of one's own, and says yes or no -/
section
variable {K : PySem.W.Frag} {M M' : MM} {H : Hp}
theorem FtT.free {a : Addr} {xs : List V} (h : ∀ a, M a = none → M' a = none) (q : StT K M H a xs) : StT K M' H a xs := by
  rcases q with ⟨m, q⟩ | q
  · exact .inl ⟨h a m, q⟩
  · exact .inr q
mutual
theorem R.free (h : ∀ a, M a = none → M' a = none) : ∀ (d : D) (k : Nat) (v : V), R K M H v d → okD k d = true → R K M' H v d
  | .non, _, _, q, _ => by cases q; exact .non
  | .bl b, _, _, q, _ => by cases q; exact .bl b
  | .int i, _, _, q, _ => by cases q; exact .int i
  | .str n, _, _, q, _ => by cases q with | str hn => exact .str hn
  | .tup l, 0, _, _, o => by simp [okD] at o
  | .tup l, k + 1, _, q, o => by
    cases q with
    | tup s ra => exact .tup (FtT.free h s) (RA.free h l k _ ra (by simpa [okD] using o))
  | .lst l, 0, _, _, o => by simp [okD] at o
  | .lst l, k + 1, _, q, o => by
    cases q with
    | lst m e ra => exact .lst (h _ m) e (RA.free h l k _ ra (by simpa [okD] using o))
  | .cell _, k, _, _, o => by cases k <;> simp [okD] at o
  | .scr _, k, _, _, o => by cases k <;> simp [okD] at o
  | .rng _ _, k, _, _, o => by cases k <;> simp [okD] at o
  | .fn _, k, _, _, o => by cases k <;> simp [okD] at o
  | .dic _, k, _, _, o => by cases k <;> simp [okD] at o
  | .ft _, k, _, _, o => by cases k <;> simp [okD] at o
theorem RA.free (h : ∀ a, M a = none → M' a = none) : ∀ (l : List D) (k : Nat) (vs : List V), RA K M H vs l → okDs k l = true → RA K M' H vs l
  | [], _, _, q, _ => by cases q; exact .nil
  | d :: l, k, _, q, o => by
    cases q with
    | cons a b =>
      rw [okDs, Bool.and_eq_true] at o
      exact .cons (R.free h d k _ a o.1) (RA.free h l k _ b o.2)
end
end
def MM.lend (M : MM) (p : Addr) : MM := fun a => if a = p then none else match M a with
  | none => none
  | some _ => some .far
def MM.got (M M' : MM) : MM := fun a => match M a with
  | some w => some w
  | none => match M' a with
    | none => none
    | some _ => some .far
def eCallP (F : Fn) (i : Nat) (fb : Ex) : Ex := fun s => match s.ρ[i]? with
  | some (.own _) => (fb s).bind fun e s1 => (match s1.ρ[i]? with
    | some (.own l) => if okD 60 e && okDs 60 l then (match F [.lst l, e] [] with
      | .ok (.bl b) _ => .ok (.bl b) s1
      | _ => .stuck) else .stuck
    | _ => .stuck)
  | _ => .stuck
section
variable {N : En} {W : WX} {X : Cx} {M M' : MM} {H H' : Hp} {cs cs' : List Cell} {s : S} {σ : St} {pos p : Pos}
theorem lend_p {p : Addr} : M.lend p p = none := if_pos rfl
theorem lend_none {p : Addr} : ∀ a, M a = none → M.lend p a = none := fun a m => by
  unfold MM.lend
  rw [m]
  split <;> rfl
theorem lend_some {p a : Addr} {w : Own} (n : a ≠ p) (m : M a = some w) : M.lend p a = some .far := by
  unfold MM.lend
  rw [if_neg n, m]
theorem got_some {a : Addr} {w : Own} (m : M a = some w) : M.got M' a = some w := by
  unfold MM.got
  rw [m]
theorem got_cell {a : Addr} {n : Nat} (m : M.got M' a = some (.cell n)) : M a = some (.cell n) := by
  unfold MM.got at m
  split at m
  · rename_i w h
    rw [h]
    exact m
  · split at m
    · cases m
    · cases m
theorem RelC.lend (r : RelC N M cs H) (p : Addr) : RelC N (M.lend p) [] H where
  cell := fun n c h => nomatch h
  uniq := fun a b n h => by
    unfold MM.lend at h
    split at h
    · cases h
    · split at h <;> cases h
  csz := fun a n h => by
    unfold MM.lend at h
    split at h
    · cases h
    · split at h <;> cases h
  mdom := fun a w h => by
    unfold MM.lend at h
    split at h
    · cases h
    · split at h
      · cases h
      · rename_i w' m
        exact r.mdom a w' m
  tabs := r.tabs
theorem lend_ext {p : Addr} {i : Nat} (m : M p = some (.slot i)) (e : Ext (M.lend p) H M' H') : Ext M H (M.got M') H' where
  keep := fun a o h ma n => by
    obtain ⟨k1, k2⟩ := e.keep a o h (lend_none a ma) n
    refine ⟨k1, ?_⟩
    unfold MM.got
    rw [ma]
    dsimp only
    rw [k2]
  cell := fun a n ma => got_some ma
  tab := e.tab
  far := fun a ma => ⟨got_some ma, (e.far a (lend_some (fun z => by rw [z, m] at ma; cases ma) ma)).2⟩
  dom := e.dom
theorem Rel.lend (r : Rel N M s σ H) {p : Addr} {i : Nat} (m : M p = some (.slot i)) (e : Ext (M.lend p) H M' H') (r' : RelC N M' cs' H') : Rel N (M.got M') s σ H' where
  cell := fun n c h => by
    obtain ⟨a, k1, k2⟩ := r.cell n c h
    have k3 := (e.far a (lend_some (fun z => by rw [z, m] at k1; cases k1) k1)).2
    exact ⟨a, got_some k1, k2.ext (lend_ext m e).toExt0 k3⟩
  uniq := fun a b n h1 h2 => r.uniq a b n (got_cell h1) (got_cell h2)
  csz := fun a n h => r.csz a n (got_cell h)
  mdom := fun a w h => by
    unfold MM.got at h
    split at h
    · rename_i w' hm
      obtain ⟨o, ho, n⟩ := r.mdom a w' hm
      exact e.dom a o ho n
    · split at h
      · cases h
      · rename_i w' hm
        exact r'.mdom a w' hm
  tabs := r'.tabs
  len := r.len
  sv := fun j d h => by
    obtain ⟨v, k1, k2⟩ := r.sv j d h
    exact ⟨v, k1, (lend_ext m e).r k2⟩
  own := fun j l h => by
    obtain ⟨a, xs, k1, k2, k3, k4⟩ := r.own j l h
    refine ⟨a, xs, k1, got_some k2, ?_, (lend_ext m e).ra k4⟩
    by_cases n : a = p
    · rw [n] at k3 ⊢
      exact (e.keep p _ k3 lend_p (fun _ z => nomatch z)).1
    · rw [(e.far a (lend_some n k2)).2]
      exact k3
theorem se_callP {CX : CXT} {k i : Nat} {f : Addr} {fd : FuncData} {ps : List Str} {F : Fn} {x : Str} {p pos : Pos} {a b : Expr} {fb : Ex} (G : FnOk X.prog X.w X.K X.mg X.base CX k f fd ps (spOf N 2 F)) (hr : Room k X.A) (hg : Gl X x) (hm : X.mg x = some (.ref f)) (hk : PySem.W.keepIn X.K (.ref f) = true) (hb : Binds X.K fd ps [])
    (hx : ∀ σ, PassesAt CX X σ (WE W σ)) (pa : PE X a (tVar i)) (hb2 : SE N W X b fb) (hdb : (x == ("__debug__" : Str)) = false := by decide) (he2 : starEach [b] X.env = (false, eval b X.env) :: starEach [] X.env := by rfl) (he : starEach [a, b] X.env = (false, eval a X.env) :: starEach [b] X.env := by rfl) (hpl : (backTo pos (starEach [b] X.env)).any (·.1) = false := by rfl) :
    SE N W X (.Call (.Name x p) [a, b] [] pos) (eCallP F i fb) := by
  obtain ⟨tb, pb, sb⟩ := hb2
  refine ⟨_, pe_callS G hr hg hm hk hb hx (pa_cons pa (pa_cons pb pa_nil he2) he) hdb he hpl, fun M s σ H Q rl q => ?_⟩
  unfold eCallP at q
  split at q
  · rename_i l0 h0
    obtain ⟨a0, xs0, k1, m0, k2, k3⟩ := rl.own i l0 h0
    refine ⟨_, k1, sb M s σ H _ rl (q.bind.imp fun M1 H1 e s1 e1 r1 q1 v hv => ?_)⟩
    split at q1
    · rename_i l h1
      obtain ⟨a1, xs, j1, m1, j2, j3⟩ := r1.own i l h1
      rw [k1] at j1
      cases j1
      split at q1
      · rename_i ho
        rw [Bool.and_eq_true] at ho
        refine ⟨M1.lend a0, [.lst l, e], [], r1.toRelC.lend a0, ?_, rfl, ?_⟩
        · exact .cons (.lst lend_p j2 (RA.free (lend_none (p := a0)) l 60 _ j3 ho.2)) (.cons (R.free (lend_none (p := a0)) e 60 _ hv ho.1) .nil)
        · split at q1
          · rename_i bb s2 hF
            rw [hF]
            intro M' H' v' e2 r2 h3
            cases h3
            exact q1 _ _ (lend_ext m1 e2) (r1.lend m1 e2 r2) _ (.bl bb)
          · exact q1.elim
      · exact q1.elim
    · exact q1.elim
  · exact q.elim
end
section
variable {N : En} {W : WX} {X : Cx} {a b : Expr} {fa fb : Ex} {pos : Pos}
theorem sim_inW {ta tb : TE} (sa : SimE N W ta fa) (sb : SimE N W tb fb) : SimE N W (tDIn ta tb) (eInW fa fb) := fun M s σ H Q rl q => by
  refine sa M s σ H _ rl (q.bind.imp fun M1 H1 y s1 e1 r1 q1 yv hy => sb M1 s1 σ H1 _ r1 (q1.bind.imp fun M2 H2 x s2 e2 r2 q2 xv hx => ?_))
  split at q2
  · rename_i n l
    cases hx with
    | @dic a kvs _ m h1 h2 =>
      cases hy with
      | str hn =>
      refine ⟨_, _, rfl, .inl ⟨_, Sum.inr (txt n), .inl h1, rfl, rfl⟩, ?_⟩
      have e : (valV kvs (Sum.inr (txt n) : Key)).isSome = l.any fun q => q.1 == -(n : Int) - 1 := by
        rw [← keyI_w]
        cases c : l.any fun q => q.1 == -(n : Int) - 1 with
        | true =>
          obtain ⟨q, hq, k⟩ := List.any_eq_true.mp c
          have k2 : q.1 = -(n : Int) - 1 := by simpa using k
          have g := (h2.1 q hq).2
          rw [k2] at g
          rw [g]
          rfl
        | false =>
          rw [h2.2 _ (by omega) fun q hq k => by
            have := List.any_eq_false.mp c q hq
            simp [k] at this]
          rfl
      rw [e]
      exact q2.here r2 _ (.bl _)
  · exact q2.elim
theorem st_inW (ha : SE N W X a fa) (hb : SE N W X b fb) (hu : X.A.units + 64 < cLine) (hm : behindInMarks .In b = false := by rfl) : ST N W X (.Compare a [.In] [b] pos) (tV (eInW fa fb)) := by
  obtain ⟨ta, pa, sa⟩ := ha
  obtain ⟨tb, pb, sb⟩ := hb
  exact ⟨_, pt_cmp (pc_din (by omega) pa pb) hm, sim_tv (sim_inW sa sb)⟩
end
end Z
/-! ## a dict of ints by ints, a cell -/
namespace Z
open PySem PySem.Spec L2 GxR
open PyProof.Rows hiding St
section
variable {N : En} {W : WX} {X : Cx} {K : PySem.W.Frag} {M M' : MM} {H H' : Hp} {s : S} {σ : St} {o k e : Expr} {fo fk fe : Ex} {pos pos' : Pos}
theorem Rel.newCellG {p : Addr} {c0 : Cell} (rl : Rel N M s σ H) (m : M p = some .far) (q : ∀ M', Ext0 M H M' H → RC N.K M' H p c0) :
    Rel N (own1 M p (some (.cell s.cs.length))) { s with cs := s.cs ++ [c0] } σ H := by
  have e := ext0_own (w := some (.cell s.cs.length)) (H := H) m
  have ne : ∀ a w, M a = some w → w ≠ .far → a ≠ p := fun a w h1 h2 z => by
    rw [z, m] at h1
    exact h2 (Option.some.inj h1).symm
  refine ⟨⟨fun n c h1 => ?_, fun a b n h1 h2 => ?_, fun a n h1 => ?_, fun a w h1 => ?_, rl.tabs⟩, rl.len, fun i d h1 => ?_, fun i l h1 => ?_⟩
  · by_cases hn : n < s.cs.length
    · rw [List.getElem?_append_left hn] at h1
      obtain ⟨a, k1, k2⟩ := rl.cell n c h1
      exact ⟨a, by rw [own1_ne (ne a _ k1 (fun z => nomatch z))]; exact k1, k2.ext e rfl⟩
    · rw [List.getElem?_append_right (by omega)] at h1
      have hn2 : n - s.cs.length = 0 := by
        have := (List.getElem?_eq_some_iff.mp h1).1
        simp at this
        omega
      rw [hn2] at h1
      cases h1
      have : n = s.cs.length := by omega
      subst this
      exact ⟨p, own1_same, q _ e⟩
  · by_cases ha : a = p
    · by_cases hb : b = p
      · rw [ha, hb]
      · rw [ha, own1_same] at h1
        rw [own1_ne hb] at h2
        cases h1
        exact absurd (rl.csz b _ h2) (Nat.lt_irrefl _)
    · by_cases hb : b = p
      · rw [hb, own1_same] at h2
        rw [own1_ne ha] at h1
        cases h2
        exact absurd (rl.csz a _ h1) (Nat.lt_irrefl _)
      · rw [own1_ne ha] at h1
        rw [own1_ne hb] at h2
        exact rl.uniq a b n h1 h2
  · rw [List.length_append, List.length_singleton]
    by_cases ha : a = p
    · rw [ha, own1_same] at h1
      cases h1
      exact Nat.lt_succ_self _
    · rw [own1_ne ha] at h1
      exact Nat.lt_succ_of_lt (rl.csz a n h1)
  · by_cases ha : a = p
    · subst ha
      exact rl.mdom a _ m
    · rw [own1_ne ha] at h1
      exact rl.mdom a w h1
  · obtain ⟨v, k1, k2⟩ := rl.sv i d h1
    exact ⟨v, k1, e.r k2⟩
  · obtain ⟨a, ys, k1, k2, k3, k4⟩ := rl.own i l h1
    exact ⟨a, ys, k1, by rw [own1_ne (ne a _ k2 (fun z => nomatch z))]; exact k2, k3, e.ra k4⟩
theorem Rel.updG (rl : Rel N M s σ H) {a : Addr} {n : Nat} {c' : Cell} {o' : HO} (ho : ∀ ps, o' ≠ .tbl ps) (hn : n < s.cs.length) (m : M a = some (.cell n)) (q : RC N.K M (upd H a o') a c') : Rel N M { s with cs := s.cs.set n c' } σ (upd H a o') where
  cell := fun j c hj => by
    by_cases z : n = j
    · subst z
      rw [List.getElem?_set_self hn] at hj
      cases hj
      exact ⟨a, m, q⟩
    · rw [List.getElem?_set_ne z] at hj
      obtain ⟨b, k1, k2⟩ := rl.cell j c hj
      refine ⟨b, k1, k2.ext (ext0_upd m) (upd_ne ?_)⟩
      rintro rfl
      rw [m] at k1
      cases k1
      exact z rfl
  uniq := rl.uniq
  csz := fun b j hj => by rw [List.length_set]; exact rl.csz b j hj
  mdom := fun b u h1 => by
    by_cases ha : b = a
    · subst ha
      exact ⟨_, upd_same, ho⟩
    · obtain ⟨o, k1, k2⟩ := rl.mdom b u h1
      exact ⟨o, by rw [upd_ne ha]; exact k1, k2⟩
  tabs := fun P hP => by
    obtain ⟨u, hu, n⟩ := rl.mdom a _ m
    exact tab_upd hu n (rl.tabs P hP)
  len := rl.len
  sv := fun j d hj => by
    obtain ⟨v, k1, k2⟩ := rl.sv j d hj
    exact ⟨v, k1, (ext0_upd m).r k2⟩
  own := fun j l hj => by
    obtain ⟨b, ys, k1, k2, k3, k4⟩ := rl.own j l hj
    refine ⟨b, ys, k1, k2, ?_, (ext0_upd m).ra k4⟩
    rw [upd_ne]
    · exact k3
    · rintro rfl
      rw [m] at k2
      cases k2
theorem ext_updG (r : RelC N M s.cs H) {p : Addr} {o' : HO} {n : Nat} (ho : ∀ ps, o' ≠ .tbl ps) (h : M p = some (.cell n)) : Ext M H M (upd H p o') where
  toExt0 := ext0_upd h
  tab := fun b hb => by
    obtain ⟨u, hu, n⟩ := r.mdom p _ h
    exact tab_upd hu n hb
  far := fun a ha => ⟨ha, upd_ne fun z => by rw [z, h] at ha; cases ha⟩
  dom := fun a o ho2 n2 => by
    by_cases ha : a = p
    · subst ha
      exact ⟨_, upd_same, ho⟩
    · exact ⟨o, by rw [upd_ne ha]; exact ho2, n2⟩
theorem dK_ne {kvs : List (Key × V)} : ∀ ps, HO.dK kvs ≠ .tbl ps := fun _ z => nomatch z
def eNewD : Ex := fun s => .ok (.cell s.cs.length) { s with cs := s.cs ++ [.dic []] }
theorem se_newD : SE N W X (.Dict [] [] pos) eNewD := by
  refine ⟨_, pe_dnewK, fun M s σ H Q rl q => fun p np => ?_⟩
  obtain ⟨rc, e⟩ := rl.toRelC.laidO dK_ne np
  have r1 := rl.laidO (o := .dK []) dK_ne np
  have fr : Fresh M H p := ⟨rl.toRelC.fresh np, fun o z => by rw [np] at z; cases z⟩
  exact q _ _ (e.ownW fr) (r1.newCellG own1_same fun M' _ => ⟨[], upd_same, Nat.le_refl _, fun _ => rfl⟩) _ (.cell own1_same)
def eIxD (fo fk : Ex) : Ex := fun s => (fo s).bind fun x s1 => (fk s1).bind fun y s2 => match x, y with
  | .cell n, .int k => (match s2.cs[n]? with
    | some (.dic l) => (match dlook l k with
      | some v => .ok (.int v) s2
      | none => .stuck)
    | _ => .stuck)
  | _, _ => .stuck
theorem cellD_at {v : V} {n : Nat} {l : List (Int × Int)} (rl : Rel N M s σ H) (h : R N.K M H v (.cell n)) (hc : s.cs[n]? = some (.dic l)) : ∃ a kvs, v = .ref a ∧ M a = some (.cell n) ∧ H a = some (.dK kvs) ∧ kvs.length ≤ l.length ∧ ∀ k : Int, valV kvs (Sum.inl k : Key) = (dlook l k).map V.int := by
  cases h with
  | cell m =>
    obtain ⟨b, m2, kvs, h1, h2⟩ := rl.cell n _ hc
    rw [rl.uniq _ _ n m2 m] at h1
    exact ⟨_, kvs, rfl, m, h1, h2⟩
theorem se_ixD (ho : SE N W X o fo) (hk : SE N W X k fk) (hu : X.A.units + 64 < cLine) (hs : NoSl k := by exact fun _ _ => rfl) : SE N W X (.Subscript o k pos) (eIxD fo fk) := by
  obtain ⟨ta, pa, sa⟩ := ho
  obtain ⟨tb, pb, sb⟩ := hk
  refine ⟨_, pe_dget (by omega) pa pb hs, fun M s σ H Q rl q => sa M s σ H _ rl (q.bind.imp fun M1 H1 x s1 e1 r1 q1 xv hx => sb M1 s1 σ H1 _ r1 (q1.bind.imp fun M2 H2 y s2 e2 r2 q2 yv hy => ?_))⟩
  split at q2
  · rename_i n i
    split at q2
    · rename_i l hc
      split at q2
      · rename_i z hz
        obtain ⟨a, kvs, rfl, m, h1, _, h3⟩ := cellD_at r2 (e2.r hx) hc
        cases hy
        have g := h3 i
        rw [hz] at g
        exact ⟨_, _, rfl, .inl ⟨_, Sum.inl i, .inl h1, rfl, g.symm⟩, q2.here r2 _ (.int z)⟩
      · exact q2.elim
    · exact q2.elim
  · exact q2.elim
def sSetD (fo fk fe : Ex) : Ss := fun s => (fe s).bind fun d s1 => (fo s1).bind fun x s2 => (fk s2).bind fun y s3 => match x, y, d with
  | .cell n, .int k, .int v => (match s3.cs[n]? with
    | some (.dic l) => if l.length < 100000 then .ok .nx { s3 with cs := s3.cs.set n (.dic ((k, v) :: l)) } else .stuck
    | _ => .stuck)
  | _, _, _ => .stuck
theorem ss_setD (ho : SE N W X o fo) (hk : SE N W X k fk) (he : SE N W X e fe) (hu : X.A.units + 64 < cLine) (hs : swapsWith e (some (.Subscript o k pos')) pos.line X.env = pure false := by rfl) : SS N W X (.Assign [.Subscript o k pos'] e pos) (sSetD fo fk fe) := by
  obtain ⟨t, pt, h⟩ := he
  obtain ⟨u, pu, hu2⟩ := hk
  obtain ⟨w, pw, hw⟩ := ho
  refine ⟨_, ps_dput (by omega) pw pu pt hs, fun M s σ H D rl q => h M s σ H _ rl (q.bindE.imp fun M1 H1 d s1 e1 r1 q1 v hv => ?_)⟩
  refine hw M1 s1 σ H1 _ r1 (q1.bindE.imp fun M2 H2 x s2 e2 r2 q2 ov hov => ?_)
  refine hu2 M2 s2 σ H2 _ r2 (q2.bindE.imp fun M3 H3 y s3 e3 r3 q3 kv hkv => ?_)
  split at q3
  · rename_i n i j
    split at q3
    · rename_i l hc
      split at q3
      · rename_i hl
        obtain ⟨a, kvs, rfl, m, h1, h2, h3⟩ := cellD_at r3 (e3.r hov) hc
        cases hkv
        cases (e2.trans e3).r hv
        refine ⟨a, _, rfl, .inl ⟨kvs, Sum.inl i, h1, rfl, lt_line (by omega), rfl⟩, ?_⟩
        have hn := (List.getElem?_eq_some_iff.mp hc).1
        refine q3.at (ext_updG r3.toRelC dK_ne m) (r3.updG dK_ne hn m ⟨_, upd_same, ?_, fun k => ?_⟩)
        · have := length_putK kvs (Sum.inl i : Key) (V.int j)
          rw [List.length_cons]
          omega
        · rw [valV_put]
          unfold dlook
          rw [List.find?_cons]
          by_cases z : k = i
          · subst z
            simp
          · have z2 : ¬ (Sum.inl k : Key) = Sum.inl i := fun w => z (Sum.inl.inj w)
            rw [if_neg z2]
            have z3 : (i == k) = false := by simp; exact fun w => z w.symm
            simp only [z3]
            exact h3 k
      · exact q3.elim
    · exact q3.elim
  · exact q3.elim
end
end Z
/-! ## how the plain functions are computed -/
namespace Z
open PySem PySem.Spec L2 GxR
open PyProof.Rows hiding St
section
variable {α β γ : Type} {s s1 : S} {f g h : Ex} {t u : Ts} {fs : As} {G : D → D → Option D}
def onB (x : D) (k : Bool → Res α) : Res α := match x with
  | .bl b => k b
  | _ => .stuck
def onI (x : D) (k : Int → Res α) : Res α := match x with
  | .int b => k b
  | _ => .stuck
@[simp] theorem onB_bl (b : Bool) (k : Bool → Res α) : onB (.bl b) k = k b := Eq.trans rfl rfl
@[simp] theorem onI_int (b : Int) (k : Int → Res α) : onI (.int b) k = k b := Eq.trans rfl rfl
@[simp] theorem bind_ok (a : α) (s : S) (k : α → S → Res β) : (Res.ok a s).bind k = k a s := Eq.trans rfl rfl
@[simp] theorem bind_stuck (k : α → S → Res β) : (Res.stuck : Res α).bind k = .stuck := Eq.trans rfl rfl
@[simp] theorem bind_exc (c : Nat) (d : D) (s : S) (k : α → S → Res β) : (Res.exc c d s : Res α).bind k = .exc c d s := Eq.trans rfl rfl
theorem bind_ite (c : Prop) [Decidable c] (a b : Res α) (k : α → S → Res β) : (if c then a else b).bind k = if c then a.bind k else b.bind k := by split <;> rfl
@[simp] theorem lift_some (z : D) (s : S) : lift (some z) s = .ok z s := Eq.trans rfl rfl
@[simp] theorem lift_none (s : S) : lift none s = .stuck := Eq.trans rfl rfl
@[simp] theorem liftL_some (z : List D) (s : S) : liftL (some z) s = .ok z s := Eq.trans rfl rfl
@[simp] theorem nox_ok (a : α) (s : S) : (Res.ok a s).nox = .ok a s := Eq.trans rfl rfl
@[simp] theorem eAnd_eq : eAnd f g s = (f s).bind fun x s1 => onB x fun b => if b = true then g s1 else .ok (.bl false) s1 := by
  unfold eAnd
  congr 1
  funext x s1
  cases x <;> try rfl
  rename_i b
  cases b <;> rfl
@[simp] theorem eOr_eq : eOr f g s = (f s).bind fun x s1 => onB x fun b => if b = true then .ok (.bl true) s1 else g s1 := by
  unfold eOr
  congr 1
  funext x s1
  cases x <;> try rfl
  rename_i b
  cases b <;> rfl
@[simp] theorem eNot_eq : eNot f s = (f s).bind fun x s1 => onB x fun b => .ok (.bl (!b)) s1 := by
  unfold eNot
  congr 1
@[simp] theorem eNeg_eq : eNeg f s = (f s).bind fun x s1 => onI x fun b => .ok (.int (-b)) s1 := by
  unfold eNeg
  congr 1
@[simp] theorem tV_eq : tV f s = (f s).bind fun x s1 => onB x fun b => .ok b s1 := by
  unfold tV
  congr 1
def chk (o : Option D) (k : Bool → Res α) : Res α := match o with
  | some (.bl b) => k b
  | _ => .stuck
@[simp] theorem chk_bl (b : Bool) (k : Bool → Res α) : chk (some (.bl b)) k = k b := Eq.trans rfl rfl
@[simp] theorem eChain_eq {g g' : D → D → Option D} {fa fb fc : Ex} : eChain g g' fa fb fc s = (fa s).bind fun x s1 => (fb s1).bind fun y s2 => chk (g x y) fun b => if b = true then (fc s2).bind fun z s3 => lift (g' y z) s3 else .ok (.bl false) s2 := by
  unfold eChain
  congr 1
  funext x s1
  congr 1
  funext y s2
  cases hg : g x y with
  | none => rfl
  | some z =>
    cases z <;> try rfl
    rename_i b
    cases b <;> rfl
def onT (o : Option Bool) (s : S) : Res Bool := match o with
  | some b => .ok b s
  | none => .stuck
@[simp] theorem onT_some (b : Bool) (s : S) : onT (some b) s = .ok b s := Eq.trans rfl rfl
@[simp] theorem tU_eq : tU f s = (f s).bind fun x s1 => onT (truD x) s1 := by
  unfold tU
  congr 1
def onNx (fl : Fl) (s : S) (k : S → Res Fl) : Res Fl := match fl with
  | .nx => k s
  | .rt d => .ok (.rt d) s
@[simp] theorem onNx_nx (s : S) (k : S → Res Fl) : onNx .nx s k = k s := Eq.trans rfl rfl
@[simp] theorem onNx_rt (d : D) (s : S) (k : S → Res Fl) : onNx (.rt d) s k = .ok (.rt d) s := Eq.trans rfl rfl
@[simp] theorem sCons_eq {f g : Ss} : sCons f g s = (f s).bind fun fl s1 => onNx fl s1 g := by
  unfold sCons
  congr 1
def onSl (o : Option Slot) (k : Slot → Res α) : Res α := match o with
  | some x => k x
  | none => .stuck
@[simp] theorem onSl_some (x : Slot) (k : Slot → Res α) : onSl (some x) k = k x := Eq.trans rfl rfl
def rdV (i : Nat) (s : S) : Slot → Res D
  | .sv d => .ok d s
  | .own l => .ok (.lst l) { s with ρ := s.ρ.set i (.sv (.lst l)) }
  | .un => .stuck
@[simp] theorem rdV_sv (i : Nat) (s : S) (d : D) : rdV i s (.sv d) = .ok d s := Eq.trans rfl rfl
@[simp] theorem rdV_own (i : Nat) (s : S) (l : List D) : rdV i s (.own l) = .ok (.lst l) { s with ρ := s.ρ.set i (.sv (.lst l)) } := Eq.trans rfl rfl
@[simp] theorem eV_eq (i : Nat) : eV i s = onSl s.ρ[i]? (rdV i s) := by
  unfold eV
  split
  · rename_i h; rw [h]; rfl
  · rename_i h; rw [h]; rfl
  · rename_i h1 h2
    cases h : s.ρ[i]? with
    | none => rfl
    | some x => cases x <;> first | rfl | exact absurd h (h1 _) | exact absurd h (h2 _)
def rdB (s : S) : Slot → Res D
  | .sv d => .ok d s
  | .own l => .ok (.lst l) s
  | .un => .stuck
@[simp] theorem rdB_sv (s : S) (d : D) : rdB s (.sv d) = .ok d s := Eq.trans rfl rfl
@[simp] theorem rdB_own (s : S) (l : List D) : rdB s (.own l) = .ok (.lst l) s := Eq.trans rfl rfl
@[simp] theorem eVB_eq (i : Nat) : eVB i s = onSl s.ρ[i]? (rdB s) := by
  unfold eVB
  split
  · rename_i h; rw [h]; rfl
  · rename_i h; rw [h]; rfl
  · rename_i h1 h2
    cases h : s.ρ[i]? with
    | none => rfl
    | some x => cases x <;> first | rfl | exact absurd h (h1 _) | exact absurd h (h2 _)
/-- behind a call -/
def onF (s : S) (r : Res D) : Res D := match r with
  | .ok d s2 => .ok d ⟨s.ρ, s2.cs⟩
  | .exc c d s2 => .exc c d ⟨s.ρ, s2.cs⟩
  | .stuck => .stuck
@[simp] theorem onF_ok (s : S) (d : D) (s2 : S) : onF s (.ok d s2) = .ok d ⟨s.ρ, s2.cs⟩ := Eq.trans rfl rfl
@[simp] theorem onF_exc (s : S) (c : Nat) (d : D) (s2 : S) : onF s (.exc c d s2) = .exc c d ⟨s.ρ, s2.cs⟩ := Eq.trans rfl rfl
theorem onF_ite (c : Prop) [Decidable c] (s : S) (a b : Res D) : onF s (if c then a else b) = if c then onF s a else onF s b := by split <;> rfl
@[simp] theorem eCall_eq {F : Fn} : eCall F fs s = (fs s).bind fun ds s1 => onF s1 (F ds s1.cs) := by
  unfold eCall
  congr 1
def fin (r : Res Fl) : Res D := match r with
  | .ok (.rt d) s => .ok d ⟨[], s.cs⟩
  | .ok .nx s => .ok .non ⟨[], s.cs⟩
  | _ => .stuck
@[simp] theorem fin_rt (d : D) (s : S) : fin (.ok (.rt d) s) = .ok d ⟨[], s.cs⟩ := Eq.trans rfl rfl
@[simp] theorem fin_nx (s : S) : fin (.ok .nx s) = .ok .non ⟨[], s.cs⟩ := Eq.trans rfl rfl
theorem fin_ite (c : Prop) [Decidable c] (a b : Res Fl) : fin (if c then a else b) = if c then fin a else fin b := by split <;> rfl
@[simp] theorem fnS0_eq (n : Nat) (b : Ss) (ds : List D) (cs : List Cell) : fnS0 n b ds cs = fin (b ⟨ds.map .sv ++ List.replicate (n - ds.length) .un, cs⟩) := Eq.trans rfl rfl
/-- the left side in a slot -/
def sl1 : Slot → Option D
  | .sv d => some d
  | .own l => some (.lst l)
  | .un => none
@[simp] theorem sl1_sv (d : D) : sl1 (.sv d) = some d := Eq.trans rfl rfl
@[simp] theorem sl1_own (l : List D) : sl1 (.own l) = some (.lst l) := Eq.trans rfl rfl
@[simp] theorem slotD_eq (i : Nat) : slotD i s = (s.ρ[i]?).bind sl1 := by
  unfold slotD
  cases h : s.ρ[i]? with
  | none => rfl
  | some x => cases x <;> rfl
def onD (o : Option D) (k : D → Res α) : Res α := match o with
  | some x => k x
  | none => .stuck
@[simp] theorem onD_some (x : D) (k : D → Res α) : onD (some x) k = k x := Eq.trans rfl rfl
@[simp] theorem eOpL_eq (i : Nat) : eOpL G i f s = onD (slotD i s) fun _ => (f s).bind fun y s2 => onD (slotD i s2) fun x => lift (G x y) s2 := by
  unfold eOpL
  cases slotD i s with
  | none => rfl
  | some x =>
    simp only [onD_some]
    congr 1
end
end Z
namespace Z
open PySem PySem.Spec L2 GxR
open PyProof.Rows hiding St
theorem atI_nat {l : List D} {i : Nat} : atI l (i : Int) = l[i]? := by
  unfold atI ixN
  by_cases h : i < l.length
  · simp [h]
  · have h' : l.length ≤ i := Nat.le_of_not_lt h
    simp [h, h']
@[simp] theorem atI_zero {x : D} {l : List D} : atI (x :: l) 0 = some x := by
  have := atI_nat (l := x :: l) (i := 0)
  simpa using this
@[simp] theorem atI_one {x y : D} {l : List D} : atI (x :: y :: l) 1 = some y := by
  have := atI_nat (l := x :: y :: l) (i := 1)
  simpa using this
@[simp] theorem atI_two {x y z : D} {l : List D} : atI (x :: y :: z :: l) 2 = some z := by
  have := atI_nat (l := x :: y :: z :: l) (i := 2)
  simpa using this
@[simp] theorem atI_3 {x y z a : D} {l : List D} : atI (x :: y :: z :: a :: l) 3 = some a := by
  have := atI_nat (l := x :: y :: z :: a :: l) (i := 3)
  simpa using this
@[simp] theorem atI_4 {x y z a b : D} {l : List D} : atI (x :: y :: z :: a :: b :: l) 4 = some b := by
  have := atI_nat (l := x :: y :: z :: a :: b :: l) (i := 4)
  simpa using this
@[simp] theorem atI_5 {x y z a b c : D} {l : List D} : atI (x :: y :: z :: a :: b :: c :: l) 5 = some c := by
  have := atI_nat (l := x :: y :: z :: a :: b :: c :: l) (i := 5)
  simpa using this
@[simp] theorem atI_6 {x y z a b c d : D} {l : List D} : atI (x :: y :: z :: a :: b :: c :: d :: l) 6 = some d := by
  have := atI_nat (l := x :: y :: z :: a :: b :: c :: d :: l) (i := 6)
  simpa using this
@[simp] theorem atI_7 {x y z a b c d e : D} {l : List D} : atI (x :: y :: z :: a :: b :: c :: d :: e :: l) 7 = some e := by
  have := atI_nat (l := x :: y :: z :: a :: b :: c :: d :: e :: l) (i := 7)
  simpa using this
end Z

namespace Z
open PySem PySem.Spec L2 GxR
open PyProof.Rows hiding St
section
variable {α β : Type} {s : S} {f g h fa fb : Ex} {t u : Ts} {fs : As} {G : D → D → Option D} {b b' : Ss}
@[simp] theorem x_eC (d : D) : eC d s = .ok d s := Eq.trans rfl rfl
@[simp] theorem x_eOp : eOp G fa fb s = (fa s).bind fun x s1 => (fb s1).bind fun y s2 => lift (G x y) s2 := Eq.trans rfl rfl
@[simp] theorem x_eIf : eIf t f g s = (t s).bind fun b s1 => if b = true then f s1 else g s1 := Eq.trans rfl rfl
@[simp] theorem x_tN : tN t s = (t s).bind fun b s1 => .ok (!b) s1 := Eq.trans rfl rfl
@[simp] theorem x_tA : tA t u s = (t s).bind fun b s1 => if b = true then u s1 else .ok false s1 := Eq.trans rfl rfl
@[simp] theorem x_tO : tO t u s = (t s).bind fun b s1 => if b = true then .ok true s1 else u s1 := Eq.trans rfl rfl
@[simp] theorem x_aNil : aNil s = .ok [] s := Eq.trans rfl rfl
@[simp] theorem x_aCons : aCons f fs s = (f s).bind fun x s1 => (fs s1).bind fun xs s2 => .ok (x :: xs) s2 := Eq.trans rfl rfl
@[simp] theorem x_eTup : eTup fs s = (fs s).bind fun ds s1 => .ok (.tup ds) s1 := Eq.trans rfl rfl
@[simp] theorem x_eF : eF fs s = (fs s).bind fun ds s1 => .ok (.lst ds) s1 := Eq.trans rfl rfl
@[simp] theorem x_eC1 (g : D → Option D) : eC1 g f s = (f s).bind fun x s1 => lift (g x) s1 := Eq.trans rfl rfl
@[simp] theorem x_aC1 (g : D → Option (List D)) : aC1 g f s = (f s).bind fun x s1 => liftL (g x) s1 := Eq.trans rfl rfl
@[simp] theorem x_eIsi (T : Ty5) : eIsi T f s = (f s).bind fun x s1 => lift ((isTy T x).map D.bl) s1 := Eq.trans rfl rfl
@[simp] theorem x_eNotT : eNotT t s = (t s).bind fun b s1 => .ok (.bl (!b)) s1 := Eq.trans rfl rfl
@[simp] theorem x_eKD (ps : List (Nat × D)) : eKD ps f s = (f s).bind fun x s1 => lift (kdD ps x) s1 := Eq.trans rfl rfl
def onC (o : Option Cell) (k : List D → Res α) : Res α := match o with
  | some (.lst l) => k l
  | _ => .stuck
@[simp] theorem onC_some (l : List D) (k : List D → Res α) : onC (some (.lst l)) k = k l := Eq.trans rfl rfl
def onCe (x : D) (k : Nat → Res α) : Res α := match x with
  | .cell n => k n
  | _ => .stuck
@[simp] theorem onCe_c (n : Nat) (k : Nat → Res α) : onCe (.cell n) k = k n := Eq.trans rfl rfl
@[simp] theorem x_eIxC : eIxC fa fb s = (fa s).bind fun x s1 => (fb s1).bind fun y s2 => onI y fun i => onCe x fun n => onC s2.cs[n]? fun l => lift (atI l i) s2 := by
  unfold eIxC
  congr 1
  funext x s1
  congr 1
  funext y s2
  cases y <;> try rfl
  cases x <;> try rfl
  simp only [onI_int, onCe_c, cellIx]
  rename_i n
  cases s2.cs[n]? with
  | none => rfl
  | some c => cases c <;> rfl
@[simp] theorem x_eNew : eNew fs s = (fs s).bind fun ds s1 => .ok (.cell s1.cs.length) { s1 with cs := s1.cs ++ [.lst ds] } := Eq.trans rfl rfl
@[simp] theorem x_sNil : sNil s = .ok .nx s := Eq.trans rfl rfl
@[simp] theorem x_sSet (i : Nat) : sSet i f s = (f s).bind fun d s1 => .ok .nx { s1 with ρ := s1.ρ.set i (.sv d) } := Eq.trans rfl rfl
@[simp] theorem x_sOwn (i : Nat) : sOwn i fs s = (fs s).bind fun l s1 => .ok .nx { s1 with ρ := s1.ρ.set i (.own l) } := Eq.trans rfl rfl
@[simp] theorem x_sAsg (gt : Tg) : sAsg gt f s = (f s).bind fun d s1 => (gt d s1).bind fun _ s2 => .ok .nx s2 := Eq.trans rfl rfl
@[simp] theorem x_sEx : sEx f s = (f s).bind fun _ s1 => .ok .nx s1 := Eq.trans rfl rfl
@[simp] theorem x_sRet : sRet f s = (f s).bind fun d s1 => .ok (.rt d) s1 := Eq.trans rfl rfl
@[simp] theorem x_sRetN : sRetN s = .ok (.rt .non) s := Eq.trans rfl rfl
@[simp] theorem x_sIf : sIf t b b' s = (t s).bind fun c s1 => if c = true then b s1 else b' s1 := Eq.trans rfl rfl
@[simp] theorem x_gN (i : Nat) (d : D) : gN i d s = .ok () { s with ρ := s.ρ.set i (.sv d) } := Eq.trans rfl rfl
@[simp] theorem x_gNil : gNil [] s = .ok () s := Eq.trans rfl rfl
@[simp] theorem x_gCons (gt : Tg) (gs : Tgs) (d : D) (l : List D) : gCons gt gs (d :: l) s = (gt d s).bind fun _ s1 => gs l s1 := Eq.trans rfl rfl
@[simp] theorem x_gT (n : Nat) (gs : Tgs) (l : List D) : gT n gs (.tup l) s = if l.length = n then gs l s else .stuck := Eq.trans rfl rfl
def on2 (l : List D) (k : D → D → Res α) : Res α := match l with
  | [a, b] => k a b
  | _ => .stuck
@[simp] theorem on2_2 (a b : D) (k : D → D → Res α) : on2 [a, b] k = k a b := Eq.trans rfl rfl
@[simp] theorem x_sPar (i j : Nat) : sPar i j fs s = (fs s).bind fun ds s1 => on2 ds fun a b => .ok .nx { s1 with ρ := (s1.ρ.set i (.sv a)).set j (.sv b) } := Eq.trans rfl rfl
def onO (o : Option Slot) (k : List D → Res α) : Res α := match o with
  | some (.own l) => k l
  | _ => .stuck
@[simp] theorem onO_o (l : List D) (k : List D → Res α) : onO (some (.own l)) k = k l := Eq.trans rfl rfl
@[simp] theorem x_sApp (i : Nat) : sApp i f s = onO s.ρ[i]? fun _ => (f s).bind fun d s1 => onO s1.ρ[i]? fun l => if l.length < 100000 then .ok .nx { s1 with ρ := s1.ρ.set i (.own (l ++ [d])) } else .stuck := Eq.trans rfl rfl
def onL (x : D) (k : List D → Res α) : Res α := match x with
  | .lst l => k l
  | _ => .stuck
@[simp] theorem onL_l (l : List D) (k : List D → Res α) : onL (.lst l) k = k l := Eq.trans rfl rfl
@[simp] theorem x_sExt (i : Nat) : sExt i f s = onO s.ρ[i]? fun _ => (f s).bind fun d s1 => onO s1.ρ[i]? fun l => onL d fun l2 => if l.length + l2.length ≤ 100000 then .ok .nx { s1 with ρ := s1.ρ.set i (.own (l ++ l2)) } else .stuck := by
  unfold sExt
  cases s.ρ[i]? with
  | none => rfl
  | some x =>
    cases x <;> try rfl
    simp only [onO_o]
    congr 1
    funext d s1
    cases s1.ρ[i]? with
    | none => rfl
    | some y => cases y <;> cases d <;> rfl
def onLo (o : Option (List D)) (k : List D → Res α) : Res α := match o with
  | some l => k l
  | none => .stuck
@[simp] theorem onLo_s (l : List D) (k : List D → Res α) : onLo (some l) k = k l := Eq.trans rfl rfl
@[simp] theorem x_sSetIx (i : Nat) : sSetIx i fa f s = (f s).bind fun d s1 => onD (slotD i s1) fun _ => (fa s1).bind fun k s2 => onO s2.ρ[i]? fun l => onI k fun k => onLo (setAt l k d) fun l' => .ok .nx { s2 with ρ := s2.ρ.set i (.own l') } := by
  unfold sSetIx
  congr 1
  funext d s1
  cases slotD i s1 with
  | none => rfl
  | some x =>
    simp only [onD_some]
    congr 1
    funext k s2
    cases s2.ρ[i]? with
    | none => rfl
    | some y =>
      cases y <;> cases k <;> rfl
@[simp] theorem x_sSetC : sSetC h fa f s = (f s).bind fun d s1 => (h s1).bind fun o s2 => (fa s2).bind fun k s3 => onCe o fun n => onI k fun k => onC s3.cs[n]? fun l => onLo (setAt l k d) fun l' => .ok .nx { s3 with cs := s3.cs.set n (.lst l') } := by
  unfold sSetC
  congr 1
  funext d s1
  congr 1
  funext o s2
  congr 1
  funext k s3
  cases o <;> cases k <;> rfl
@[simp] theorem x_addD (i j : Int) : addD (.int i) (.int j) = some (.int (i + j)) := Eq.trans rfl rfl
@[simp] theorem x_subD (i j : Int) : subD (.int i) (.int j) = some (.int (i - j)) := Eq.trans rfl rfl
@[simp] theorem x_ltD (i j : Int) : ltD (.int i) (.int j) = some (.bl (decide (i < j))) := Eq.trans rfl rfl
@[simp] theorem x_leD (i j : Int) : leD (.int i) (.int j) = some (.bl (decide (i ≤ j))) := Eq.trans rfl rfl
@[simp] theorem x_gtD (i j : Int) : gtD (.int i) (.int j) = some (.bl (decide (j < i))) := Eq.trans rfl rfl
@[simp] theorem x_geD (i j : Int) : geD (.int i) (.int j) = some (.bl (decide (j ≤ i))) := Eq.trans rfl rfl
@[simp] theorem x_addI (i j : Int) : addI (.int i) (.int j) = some (.int (i + j)) := Eq.trans rfl rfl
@[simp] theorem x_modD (i j : Int) : modD (.int i) (.int j) = if 0 < j then some (.int (i % j)) else none := Eq.trans rfl rfl
@[simp] theorem x_fdivD (i j : Int) : fdivD (.int i) (.int j) = if 0 < j ∧ j < 1073741824 then some (.int (i / j)) else none := Eq.trans rfl rfl
@[simp] theorem x_addT (a b : List D) : addD (.tup a) (.tup b) = if a.length + b.length ≤ 100000 then some (.tup (a ++ b)) else none := Eq.trans rfl rfl
@[simp] theorem x_addL (a b : List D) : addD (.lst a) (.lst b) = if a.length + b.length ≤ 100000 then some (.lst (a ++ b)) else none := Eq.trans rfl rfl
@[simp] theorem x_mulD (i j : Int) : mulD (.int i) (.int j) = if (-(2 ^ 64) < i ∧ i < 2 ^ 64) ∨ (-(2 ^ 64) < j ∧ j < 2 ^ 64) then some (.int (i * j)) else none := Eq.trans rfl rfl
@[simp] theorem x_ten : powD (.int 10) (.int 18) = some (.int 1000000000000000000) := by simp [powD]
@[simp] theorem x_eqOp (d e : D) : eqOp d e = if okD 60 d && okD 60 e then some (.bl (eqD d e)) else none := Eq.trans rfl rfl
@[simp] theorem x_neOp (d e : D) : neOp d e = if okD 60 d && okD 60 e then some (.bl (!eqD d e)) else none := Eq.trans rfl rfl
@[simp] theorem x_intup (x : D) (l : List D) : inOp x (.tup l) = if okD 60 x && okDs 60 l then some (.bl (inD x l)) else none := Eq.trans rfl rfl
@[simp] theorem x_nintup (x : D) (l : List D) : notInOp x (.tup l) = if okD 60 x && okDs 60 l then some (.bl (!inD x l)) else none := Eq.trans rfl rfl
@[simp] theorem x_ixtup (l : List D) (i : Int) : ixD (.tup l) (.int i) = atI l i := Eq.trans rfl rfl
@[simp] theorem x_lentup (l : List D) : lenD (.tup l) = some (.int l.length) := Eq.trans rfl rfl
@[simp] theorem x_tuptup (l : List D) : tupD (.tup l) = some (.tup l) := Eq.trans rfl rfl
@[simp] theorem x_listtup (l : List D) : listD (.tup l) = some l := Eq.trans rfl rfl
@[simp] theorem x_trutup (l : List D) : truD (.tup l) = some (!l.isEmpty) := Eq.trans rfl rfl
@[simp] theorem x_inlst (x : D) (l : List D) : inOp x (.lst l) = if okD 60 x && okDs 60 l then some (.bl (inD x l)) else none := Eq.trans rfl rfl
@[simp] theorem x_ninlst (x : D) (l : List D) : notInOp x (.lst l) = if okD 60 x && okDs 60 l then some (.bl (!inD x l)) else none := Eq.trans rfl rfl
@[simp] theorem x_ixlst (l : List D) (i : Int) : ixD (.lst l) (.int i) = atI l i := Eq.trans rfl rfl
@[simp] theorem x_lenlst (l : List D) : lenD (.lst l) = some (.int l.length) := Eq.trans rfl rfl
@[simp] theorem x_tuplst (l : List D) : tupD (.lst l) = some (.tup l) := Eq.trans rfl rfl
@[simp] theorem x_listlst (l : List D) : listD (.lst l) = some l := Eq.trans rfl rfl
@[simp] theorem x_trulst (l : List D) : truD (.lst l) = some (!l.isEmpty) := Eq.trans rfl rfl
@[simp] theorem x_isN (d : D) : isNOp d .non = some (.bl (isNon d)) := Eq.trans rfl rfl
@[simp] theorem x_notN (d : D) : notNOp d .non = some (.bl (!isNon d)) := Eq.trans rfl rfl
@[simp] theorem isNon_non : isNon .non = true := Eq.trans rfl rfl
@[simp] theorem isNon_bl (b : Bool) : isNon (.bl b) = false := Eq.trans rfl rfl
@[simp] theorem isNon_int (b : Int) : isNon (.int b) = false := Eq.trans rfl rfl
@[simp] theorem isNon_str (b : Nat) : isNon (.str b) = false := Eq.trans rfl rfl
@[simp] theorem isNon_tup (b : List D) : isNon (.tup b) = false := Eq.trans rfl rfl
@[simp] theorem isNon_lst (b : List D) : isNon (.lst b) = false := Eq.trans rfl rfl
@[simp] theorem isNon_cell (b : Nat) : isNon (.cell b) = false := Eq.trans rfl rfl
@[simp] theorem x_truB (b : Bool) : truD (.bl b) = some b := Eq.trans rfl rfl
@[simp] theorem x_truI (b : Int) : truD (.int b) = some (b != 0) := Eq.trans rfl rfl
@[simp] theorem x_truN : truD .non = some false := Eq.trans rfl rfl
@[simp] theorem x_abs (i : Int) : absD (.int i) = some (.int (if i < 0 then -i else i)) := Eq.trans rfl rfl
@[simp] theorem x_int (i : Int) : intD (.int i) = some (.int i) := Eq.trans rfl rfl
@[simp] theorem x_intB (b : Bool) : intD (.bl b) = some (.int (if b then 1 else 0)) := Eq.trans rfl rfl
@[simp] theorem x_listS (l : List Int) : listD (.scr l) = some (l.map D.int) := Eq.trans rfl rfl
@[simp] theorem x_is_int_bl (b : Bool) : isTy .int (.bl b) = some true := Eq.trans rfl rfl
@[simp] theorem x_is_int_int (b : Int) : isTy .int (.int b) = some true := Eq.trans rfl rfl
@[simp] theorem x_is_int_str (b : Nat) : isTy .int (.str b) = some false := Eq.trans rfl rfl
@[simp] theorem x_is_int_tup (b : List D) : isTy .int (.tup b) = some false := Eq.trans rfl rfl
@[simp] theorem x_is_int_lst (b : List D) : isTy .int (.lst b) = some false := Eq.trans rfl rfl
@[simp] theorem x_is_int_non : isTy .int .non = some false := Eq.trans rfl rfl
@[simp] theorem x_is_bool_bl (b : Bool) : isTy .bool (.bl b) = some true := Eq.trans rfl rfl
@[simp] theorem x_is_bool_int (b : Int) : isTy .bool (.int b) = some false := Eq.trans rfl rfl
@[simp] theorem x_is_bool_str (b : Nat) : isTy .bool (.str b) = some false := Eq.trans rfl rfl
@[simp] theorem x_is_bool_tup (b : List D) : isTy .bool (.tup b) = some false := Eq.trans rfl rfl
@[simp] theorem x_is_bool_lst (b : List D) : isTy .bool (.lst b) = some false := Eq.trans rfl rfl
@[simp] theorem x_is_bool_non : isTy .bool .non = some false := Eq.trans rfl rfl
@[simp] theorem x_is_str_bl (b : Bool) : isTy .str (.bl b) = some false := Eq.trans rfl rfl
@[simp] theorem x_is_str_int (b : Int) : isTy .str (.int b) = some false := Eq.trans rfl rfl
@[simp] theorem x_is_str_str (b : Nat) : isTy .str (.str b) = some true := Eq.trans rfl rfl
@[simp] theorem x_is_str_tup (b : List D) : isTy .str (.tup b) = some false := Eq.trans rfl rfl
@[simp] theorem x_is_str_lst (b : List D) : isTy .str (.lst b) = some false := Eq.trans rfl rfl
@[simp] theorem x_is_str_non : isTy .str .non = some false := Eq.trans rfl rfl
@[simp] theorem x_is_tuple_bl (b : Bool) : isTy .tuple (.bl b) = some false := Eq.trans rfl rfl
@[simp] theorem x_is_tuple_int (b : Int) : isTy .tuple (.int b) = some false := Eq.trans rfl rfl
@[simp] theorem x_is_tuple_str (b : Nat) : isTy .tuple (.str b) = some false := Eq.trans rfl rfl
@[simp] theorem x_is_tuple_tup (b : List D) : isTy .tuple (.tup b) = some true := Eq.trans rfl rfl
@[simp] theorem x_is_tuple_lst (b : List D) : isTy .tuple (.lst b) = some false := Eq.trans rfl rfl
@[simp] theorem x_is_tuple_non : isTy .tuple .non = some false := Eq.trans rfl rfl
@[simp] theorem x_is_list_bl (b : Bool) : isTy .list (.bl b) = some false := Eq.trans rfl rfl
@[simp] theorem x_is_list_int (b : Int) : isTy .list (.int b) = some false := Eq.trans rfl rfl
@[simp] theorem x_is_list_str (b : Nat) : isTy .list (.str b) = some false := Eq.trans rfl rfl
@[simp] theorem x_is_list_tup (b : List D) : isTy .list (.tup b) = some false := Eq.trans rfl rfl
@[simp] theorem x_is_list_lst (b : List D) : isTy .list (.lst b) = some true := Eq.trans rfl rfl
@[simp] theorem x_is_list_non : isTy .list .non = some false := Eq.trans rfl rfl
@[simp] theorem okD_int (k : Nat) (i : Int) : okD k (.int i) = true := by cases k <;> rfl
@[simp] theorem okD_bl (k : Nat) (i : Bool) : okD k (.bl i) = true := by cases k <;> rfl
@[simp] theorem okD_non (k : Nat) : okD k .non = true := by cases k <;> rfl
@[simp] theorem okD_str (k : Nat) (n : Nat) : okD k (.str n) = decide (n < 70) := by cases k <;> rfl
@[simp] theorem okDs_nil (k : Nat) : okDs k [] = true := by rw [okDs]
@[simp] theorem okDs_cons (k : Nat) (d : D) (l : List D) : okDs k (d :: l) = (okD k d && okDs k l) := by rw [okDs]
@[simp] theorem okD_tup60 (l : List D) : okD 60 (.tup l) = okDs 59 l := by rw [okD]
@[simp] theorem okD_lst60 (l : List D) : okD 60 (.lst l) = okDs 59 l := by rw [okD]
@[simp] theorem okD_tup59 (l : List D) : okD 59 (.tup l) = okDs 58 l := by rw [okD]
@[simp] theorem okD_lst59 (l : List D) : okD 59 (.lst l) = okDs 58 l := by rw [okD]
@[simp] theorem okD_tup58 (l : List D) : okD 58 (.tup l) = okDs 57 l := by rw [okD]
@[simp] theorem okD_lst58 (l : List D) : okD 58 (.lst l) = okDs 57 l := by rw [okD]
@[simp] theorem okD_tup57 (l : List D) : okD 57 (.tup l) = okDs 56 l := by rw [okD]
@[simp] theorem okD_lst57 (l : List D) : okD 57 (.lst l) = okDs 56 l := by rw [okD]
@[simp] theorem okD_tup56 (l : List D) : okD 56 (.tup l) = okDs 55 l := by rw [okD]
@[simp] theorem okD_lst56 (l : List D) : okD 56 (.lst l) = okDs 55 l := by rw [okD]
@[simp] theorem okD_tup55 (l : List D) : okD 55 (.tup l) = okDs 54 l := by rw [okD]
@[simp] theorem okD_lst55 (l : List D) : okD 55 (.lst l) = okDs 54 l := by rw [okD]
@[simp] theorem okD_tup54 (l : List D) : okD 54 (.tup l) = okDs 53 l := by rw [okD]
@[simp] theorem okD_lst54 (l : List D) : okD 54 (.lst l) = okDs 53 l := by rw [okD]
@[simp] theorem okD_tup53 (l : List D) : okD 53 (.tup l) = okDs 52 l := by rw [okD]
@[simp] theorem okD_lst53 (l : List D) : okD 53 (.lst l) = okDs 52 l := by rw [okD]
@[simp] theorem okD_tup52 (l : List D) : okD 52 (.tup l) = okDs 51 l := by rw [okD]
@[simp] theorem okD_lst52 (l : List D) : okD 52 (.lst l) = okDs 51 l := by rw [okD]
@[simp] theorem okD_tup51 (l : List D) : okD 51 (.tup l) = okDs 50 l := by rw [okD]
@[simp] theorem okD_lst51 (l : List D) : okD 51 (.lst l) = okDs 50 l := by rw [okD]
@[simp] theorem eq_non_non  : eqD (.non) (.non) = true := by simp [eqD]
@[simp] theorem eq_non_bl (b2 : Bool) : eqD (.non) (.bl b2) = false := by simp [eqD]
@[simp] theorem eq_non_int (i2 : Int) : eqD (.non) (.int i2) = false := by simp [eqD]
@[simp] theorem eq_non_str (n2 : Nat) : eqD (.non) (.str n2) = false := by simp [eqD]
@[simp] theorem eq_non_tup (l2 : List D) : eqD (.non) (.tup l2) = false := by simp [eqD]
@[simp] theorem eq_non_lst (l2 : List D) : eqD (.non) (.lst l2) = false := by simp [eqD]
@[simp] theorem eq_bl_non (b1 : Bool)  : eqD (.bl b1) (.non) = false := by simp [eqD]
@[simp] theorem eq_bl_bl (b1 : Bool) (b2 : Bool) : eqD (.bl b1) (.bl b2) = (b1 == b2) := by simp [eqD]
@[simp] theorem eq_bl_int (b1 : Bool) (i2 : Int) : eqD (.bl b1) (.int i2) = ((if b1 then 1 else 0) == i2) := by simp [eqD]
@[simp] theorem eq_bl_str (b1 : Bool) (n2 : Nat) : eqD (.bl b1) (.str n2) = false := by simp [eqD]
@[simp] theorem eq_bl_tup (b1 : Bool) (l2 : List D) : eqD (.bl b1) (.tup l2) = false := by simp [eqD]
@[simp] theorem eq_bl_lst (b1 : Bool) (l2 : List D) : eqD (.bl b1) (.lst l2) = false := by simp [eqD]
@[simp] theorem eq_int_non (i1 : Int)  : eqD (.int i1) (.non) = false := by simp [eqD]
@[simp] theorem eq_int_bl (i1 : Int) (b2 : Bool) : eqD (.int i1) (.bl b2) = (i1 == (if b2 then 1 else 0)) := by simp [eqD]
@[simp] theorem eq_int_int (i1 : Int) (i2 : Int) : eqD (.int i1) (.int i2) = (i1 == i2) := by simp [eqD]
@[simp] theorem eq_int_str (i1 : Int) (n2 : Nat) : eqD (.int i1) (.str n2) = false := by simp [eqD]
@[simp] theorem eq_int_tup (i1 : Int) (l2 : List D) : eqD (.int i1) (.tup l2) = false := by simp [eqD]
@[simp] theorem eq_int_lst (i1 : Int) (l2 : List D) : eqD (.int i1) (.lst l2) = false := by simp [eqD]
@[simp] theorem eq_str_non (n1 : Nat)  : eqD (.str n1) (.non) = false := by simp [eqD]
@[simp] theorem eq_str_bl (n1 : Nat) (b2 : Bool) : eqD (.str n1) (.bl b2) = false := by simp [eqD]
@[simp] theorem eq_str_int (n1 : Nat) (i2 : Int) : eqD (.str n1) (.int i2) = false := by simp [eqD]
@[simp] theorem eq_str_str (n1 : Nat) (n2 : Nat) : eqD (.str n1) (.str n2) = (n1 == n2) := by simp [eqD]
@[simp] theorem eq_str_tup (n1 : Nat) (l2 : List D) : eqD (.str n1) (.tup l2) = false := by simp [eqD]
@[simp] theorem eq_str_lst (n1 : Nat) (l2 : List D) : eqD (.str n1) (.lst l2) = false := by simp [eqD]
@[simp] theorem eq_tup_non (l1 : List D)  : eqD (.tup l1) (.non) = false := by simp [eqD]
@[simp] theorem eq_tup_bl (l1 : List D) (b2 : Bool) : eqD (.tup l1) (.bl b2) = false := by simp [eqD]
@[simp] theorem eq_tup_int (l1 : List D) (i2 : Int) : eqD (.tup l1) (.int i2) = false := by simp [eqD]
@[simp] theorem eq_tup_str (l1 : List D) (n2 : Nat) : eqD (.tup l1) (.str n2) = false := by simp [eqD]
@[simp] theorem eq_tup_tup (l1 : List D) (l2 : List D) : eqD (.tup l1) (.tup l2) = eqDs l1 l2 := by simp [eqD]
@[simp] theorem eq_tup_lst (l1 : List D) (l2 : List D) : eqD (.tup l1) (.lst l2) = false := by simp [eqD]
@[simp] theorem eq_lst_non (l1 : List D)  : eqD (.lst l1) (.non) = false := by simp [eqD]
@[simp] theorem eq_lst_bl (l1 : List D) (b2 : Bool) : eqD (.lst l1) (.bl b2) = false := by simp [eqD]
@[simp] theorem eq_lst_int (l1 : List D) (i2 : Int) : eqD (.lst l1) (.int i2) = false := by simp [eqD]
@[simp] theorem eq_lst_str (l1 : List D) (n2 : Nat) : eqD (.lst l1) (.str n2) = false := by simp [eqD]
@[simp] theorem eq_lst_tup (l1 : List D) (l2 : List D) : eqD (.lst l1) (.tup l2) = false := by simp [eqD]
@[simp] theorem eq_lst_lst (l1 : List D) (l2 : List D) : eqD (.lst l1) (.lst l2) = eqDs l1 l2 := by simp [eqD]
@[simp] theorem eqDs_nil : eqDs [] [] = true := by simp [eqDs]
@[simp] theorem eqDs_cons (x y : D) (l m : List D) : eqDs (x :: l) (y :: m) = (eqD x y && eqDs l m) := by simp [eqDs]
@[simp] theorem eqDs_nc (y : D) (m : List D) : eqDs [] (y :: m) = false := by simp [eqDs]
@[simp] theorem eqDs_cn (y : D) (m : List D) : eqDs (y :: m) [] = false := by simp [eqDs]
@[simp] theorem inD_nil (x : D) : inD x [] = false := Eq.trans rfl rfl
@[simp] theorem inD_cons (x y : D) (l : List D) : inD x (y :: l) = (eqD y x || inD x l) := Eq.trans rfl rfl
def onSq (x : D) (k : List D → Res α) : Res α := match x with
  | .tup l => k l
  | .lst l => k l
  | _ => .stuck
@[simp] theorem onSq_t (l : List D) (k : List D → Res α) : onSq (.tup l) k = k l := Eq.trans rfl rfl
@[simp] theorem onSq_l (l : List D) (k : List D → Res α) : onSq (.lst l) k = k l := Eq.trans rfl rfl
@[simp] theorem x_iSeq : iSeq f s = (f s).bind fun x s1 => onSq x fun l => .ok l s1 := Eq.trans rfl rfl
@[simp] theorem kd_str (ps : List (Nat × D)) (k : Nat) : kdD ps (.str k) = look ps k := Eq.trans rfl rfl
def onS (x : D) (k : Nat → Res α) : Res α := match x with
  | .str n => k n
  | _ => .stuck
@[simp] theorem onS_s (n : Nat) (k : Nat → Res α) : onS (.str n) k = k n := Eq.trans rfl rfl
@[simp] theorem x_eDX (ks : List Nat) : eDX ks fs f s = (fs s).bind fun ds s1 => (f s1).bind fun k s2 => onS k fun n => lift (look (ks.zip ds) n) s2 := by
  rfl
@[simp] theorem look_cons (k n : Nat) (d : D) (ps : List (Nat × D)) : look ((k, d) :: ps) n = if k = n then some d else look ps n := by
  unfold look
  by_cases h : k = n <;> simp [h]
@[simp] theorem x_eSl (lo hi : Os) : eSl f lo hi s = (f s).bind fun x s1 => (lo s1).bind fun l s2 => (hi s2).bind fun h s3 => lift (slD x l h) s3 := Eq.trans rfl rfl
@[simp] theorem x_oNo : oNo s = .ok none s := Eq.trans rfl rfl
@[simp] theorem x_oEx : oEx f s = (f s).bind fun x s1 => onI x fun i => .ok (some i) s1 := Eq.trans rfl rfl
@[simp] theorem x_sltup (l : List D) (a b : Option Int) : slD (.tup l) a b = some (.tup (cutD l a b)) := Eq.trans rfl rfl
@[simp] theorem x_sllst (l : List D) (a b : Option Int) : slD (.lst l) a b = some (.lst (cutD l a b)) := Eq.trans rfl rfl
@[simp] theorem x_eIf2 : tYes s = .ok true s := Eq.trans rfl rfl
@[simp] theorem x_aug (i : Nat) : sAug G i f s = (eOpL G i f s).bind fun d s1 => .ok .nx { s1 with ρ := s1.ρ.set i (.sv d) } := Eq.trans rfl rfl
end
end Z
namespace Z
open PySem PySem.Spec L2 GxR
open PyProof.Rows hiding St
section
variable {s : S} {f : Ex} {fi : Is} {g : Tg} {b : Ss} {t : Ts} {fs : As}
@[simp] theorem x_sFor : sFor fi g b s = (fi s).bind fun ds s1 => forL g b ds s1 := Eq.trans rfl rfl
@[simp] theorem forL_nil : forL g b [] s = .ok .nx s := by rw [forL]
@[simp] theorem forL_cons (d : D) (ds : List D) : forL g b (d :: ds) s = (g d s).bind fun _ s1 => (b s1).bind fun fl s2 => onNx fl s2 (forL g b ds) := by
  rw [forL]
  rfl
@[simp] theorem cut_1 (x : D) (l : List D) : cutD (x :: l) (some 1) none = l := by
  unfold cutD
  have h1 : HT.sIx (x :: l).length 0 (some 1) = 1 := by
    simp [HT.sIx]
  have h2 : HT.sIx (x :: l).length (x :: l).length none = (x :: l).length := by
    simp [HT.sIx]
  rw [h1, h2]
  simp
/-- a loop whose turns all go through -/
theorem forL_ok {step : D → S → S} (I : S → Prop) : ∀ {ds : List D} {s : S}, I s → (∀ d ∈ ds, ∀ s, I s → ((g d s).bind fun _ s1 => b s1) = .ok .nx (step d s) ∧ I (step d s)) → forL g b ds s = .ok .nx (ds.foldl (fun s d => step d s) s) ∧ I (ds.foldl (fun s d => step d s) s)
  | [], s, hi, _ => ⟨forL_nil, hi⟩
  | d :: ds, s, hi, h => by
    obtain ⟨h1, h2⟩ := h d List.mem_cons_self s hi
    obtain ⟨k1, k2⟩ := forL_ok I (ds := ds) h2 fun e he => h e (List.mem_cons_of_mem _ he)
    refine ⟨?_, k2⟩
    rw [List.foldl_cons, ← k1, forL_cons]
    cases hg : g d s with
    | stuck => rw [hg] at h1; cases h1
    | exc c x s1 => rw [hg] at h1; cases h1
    | ok u s1 =>
      rw [hg] at h1
      simp only [bind_ok] at h1 ⊢
      rw [h1]
      rfl
/-- comprehensions whose turns change nothing -/
theorem wipeL_idem : ∀ (vs : List Nat) (l : List Slot), wipeL vs (wipeL vs l) = wipeL vs l := by
  have comm : ∀ (vs : List Nat) (i : Nat) (l : List Slot), wipeL vs (l.set i .un) = (wipeL vs l).set i .un := by
    intro vs
    induction vs with
    | nil => intro i l; rfl
    | cons j r ih =>
      intro i l
      rw [wipeL, wipeL, ih]
      by_cases h : i = j
      · subst h; rfl
      · rw [List.set_comm _ _ h]
  intro vs
  induction vs with
  | nil => intro l; rfl
  | cons j r ih =>
    intro l
    rw [wipeL, wipeL, comm, ih, List.set_set]
theorem compL_ok {vs : List Nat} {fy : D → D} {tb : D → Bool} {s0 : S} : ∀ {ds : List D} {s : S}, wipeS vs s = wipeS vs s0 → (∀ d ∈ ds, ∃ s1, g d (wipeS vs s0) = .ok () s1 ∧ t s1 = .ok (tb d) s1 ∧ (tb d = true → f s1 = .ok (fy d) s1) ∧ wipeS vs s1 = wipeS vs s0) →
    ∃ s2, compL vs g t f ds s = .ok ((ds.filter tb).map fy) s2 ∧ wipeS vs s2 = wipeS vs s0
  | [], s, hw, _ => ⟨s, by rw [compL]; rfl, hw⟩
  | d :: ds, s, hw, h => by
    obtain ⟨s1, h1, h2, h3, h4⟩ := h d List.mem_cons_self
    have ih := fun (s : S) hw => compL_ok (ds := ds) (s := s) hw fun e he => h e (List.mem_cons_of_mem _ he)
    rw [compL, hw, h1, bind_ok, h2, bind_ok]
    cases ht : tb d with
    | false =>
      obtain ⟨s2, k1, k2⟩ := ih s1 h4
      refine ⟨s2, ?_, k2⟩
      rw [if_neg (by decide), k1, List.filter_cons_of_neg (by rw [ht]; decide)]
    | true =>
      obtain ⟨s2, k1, k2⟩ := ih s1 h4
      refine ⟨s2, ?_, k2⟩
      rw [if_pos rfl, h3 ht, bind_ok, k1, bind_ok, List.filter_cons_of_pos ht, List.map_cons]
theorem restL_wipe (l0 : List Slot) : ∀ (vs : List Nat) (l : List Slot), restL l0 vs (wipeL vs l) = restL l0 vs l := by
  have comm : ∀ (vs : List Nat) (i : Nat) (x : Slot) (l : List Slot), i ∈ vs → restL l0 vs (l.set i x) = restL l0 vs l := by
    intro vs
    induction vs with
    | nil => intro i x l h; cases h
    | cons j r ih =>
      intro i x l h
      rw [restL, restL]
      by_cases hr : i ∈ r
      · rw [ih i x l hr]
      · have e : i = j := by
          rcases List.mem_cons.mp h with h | h
          · exact h
          · exact absurd h hr
        subst e
        have c2 : ∀ (r : List Nat) (l : List Slot), restL l0 r (l.set i x) = (restL l0 r l).set i x ∨ i ∈ r := by
          intro r
          induction r with
          | nil => intro l; exact .inl rfl
          | cons k r ih2 =>
            intro l
            by_cases hk : i = k
            · exact .inr (by rw [hk]; exact List.mem_cons_self)
            · rcases ih2 l with h | h
              · refine .inl ?_
                rw [restL, restL, h, List.set_comm _ _ hk]
              · exact .inr (List.mem_cons_of_mem _ h)
        rcases c2 r l with h2 | h2
        · rw [h2, List.set_set]
        · exact absurd h2 hr
  have gen : ∀ (vs ws : List Nat) (l : List Slot), (∀ i ∈ vs, i ∈ ws) → restL l0 ws (wipeL vs l) = restL l0 ws l := by
    intro vs
    induction vs with
    | nil => intro ws l _; rfl
    | cons j r ih =>
      intro ws l h
      rw [wipeL, comm ws j .un _ (h j List.mem_cons_self), ih ws l fun i hi => h i (List.mem_cons_of_mem _ hi)]
  exact fun vs l => gen vs vs l fun i h => h
theorem lc_ok {vs : List Nat} {fy : D → D} {tb : D → Bool} {ds : List D} {s0 s : S} (hi : fi s = .ok ds s0) (hl : ds.length ≤ 100000) (h : ∀ d ∈ ds, ∃ s1, g d (wipeS vs s0) = .ok () s1 ∧ t s1 = .ok (tb d) s1 ∧ (tb d = true → f s1 = .ok (fy d) s1) ∧ wipeS vs s1 = wipeS vs s0) (hr : restL s0.ρ vs s0.ρ = s0.ρ) :
    aLc vs fi g t f s = .ok ((ds.filter tb).map fy) s0 := by
  unfold aLc
  rw [hi, bind_ok, if_pos hl]
  obtain ⟨s2, k1, k2⟩ := compL_ok (s := s0) (fy := fy) rfl h
  rw [k1, nox_ok, bind_ok]
  have e1 : (wipeS vs s2).cs = (wipeS vs s0).cs := by rw [k2]
  have e1 : s2.cs = s0.cs := e1
  have e2 : (wipeS vs s2).ρ = (wipeS vs s0).ρ := by rw [k2]
  have e2 : wipeL vs s2.ρ = wipeL vs s0.ρ := e2
  have e3 : restS vs s0 s2 = s0 := by
    unfold restS
    rw [e1, ← restL_wipe, e2, restL_wipe, hr]
  rw [e3]
end
end Z
namespace Z
open PySem PySem.Spec L2 GxR
open PyProof.Rows hiding St
section
variable {α : Type} {s : S} {f : Ex} {fi : Is} {g : Tg} {b : Ss} {t : Ts} {fs : As}
def on1 (l : List D) (k : D → Res α) : Res α := match l with
  | [a] => k a
  | _ => .stuck
@[simp] theorem on1_1 (a : D) (k : D → Res α) : on1 [a] k = k a := Eq.trans rfl rfl
@[simp] theorem x_iRn1 : iRn1 fs s = (fs s).bind fun x s1 => on1 x fun d => onI d fun j => if -(2 ^ 62) ≤ j ∧ j < 2 ^ 62 then .ok (rngL 0 j) s1 else .stuck := by
  unfold iRn1
  congr 1
  funext x s1
  match x with
  | [] => rfl
  | [a] => cases a <;> rfl
  | a :: c :: l => cases a <;> cases c <;> cases l <;> rfl
@[simp] theorem x_iRn2 : iRn2 fs s = (fs s).bind fun x s1 => on2 x fun d e => onI d fun i => onI e fun j => if -(2 ^ 62) ≤ i ∧ i < 2 ^ 62 ∧ -(2 ^ 62) ≤ j ∧ j < 2 ^ 62 then .ok (rngL i j) s1 else .stuck := by
  unfold iRn2
  congr 1
  funext x s1
  match x with
  | [] => rfl
  | [a] => cases a <;> rfl
  | [a, c] => cases a <;> cases c <;> rfl
  | a :: c :: e :: l => cases a <;> cases c <;> rfl
theorem rng_mem {lo hi : Int} {d : D} : d ∈ rngL lo hi ↔ ∃ k : Int, lo ≤ k ∧ k < hi ∧ d = .int k := by
  unfold rngL
  rw [List.mem_map]
  constructor
  · rintro ⟨k, hk, rfl⟩
    rw [List.mem_range] at hk
    exact ⟨lo + k, by omega, by omega, rfl⟩
  · rintro ⟨k, h1, h2, rfl⟩
    refine ⟨(k - lo).toNat, List.mem_range.mpr (by omega), ?_⟩
    congr 1
    omega
@[simp] theorem rng_len {lo hi : Int} : (rngL lo hi).length = (hi - lo).toNat := by unfold rngL; simp
@[simp] theorem wipeS_mk (vs : List Nat) (ρ : List Slot) (cs : List Cell) : wipeS vs ⟨ρ, cs⟩ = ⟨wipeL vs ρ, cs⟩ := Eq.trans rfl rfl
@[simp] theorem wipeL_nil (l : List Slot) : wipeL [] l = l := Eq.trans rfl rfl
@[simp] theorem wipeL_cons (i : Nat) (r : List Nat) (l : List Slot) : wipeL (i :: r) l = (wipeL r l).set i .un := Eq.trans rfl rfl
@[simp] theorem restL_nil (l0 l : List Slot) : restL l0 [] l = l := Eq.trans rfl rfl
def rsl : Option Slot → Slot
  | some (.sv d) => .sv d
  | _ => .un
@[simp] theorem rsl_sv (d : D) : rsl (some (.sv d)) = .sv d := Eq.trans rfl rfl
@[simp] theorem rsl_un : rsl (some .un) = .un := Eq.trans rfl rfl
@[simp] theorem rsl_none : rsl none = .un := Eq.trans rfl rfl
@[simp] theorem restL_cons (l0 : List Slot) (i : Nat) (r : List Nat) (l : List Slot) : restL l0 (i :: r) l = (restL l0 r l).set i (rsl l0[i]?) := by
  rw [restL]
  congr 1
/-- .. whose turns write cells -/
theorem comp_st {vs : List Nat} {ρ : List Slot} (J : List Cell → Prop) (P : D → D → Prop) : ∀ {ds : List D} {s : S}, wipeL vs s.ρ = wipeL vs ρ → J s.cs →
    (∀ d ∈ ds, ∀ cs, J cs → ∃ s1, g d ⟨wipeL vs ρ, cs⟩ = .ok () s1 ∧ ∃ b s2, t s1 = .ok b s2 ∧ (b = false → wipeL vs s2.ρ = wipeL vs ρ ∧ J s2.cs) ∧ (b = true → ∃ y s3, f s2 = .ok y s3 ∧ wipeL vs s3.ρ = wipeL vs ρ ∧ J s3.cs ∧ P d y)) →
    ∃ ys s2, compL vs g t f ds s = .ok ys s2 ∧ wipeL vs s2.ρ = wipeL vs ρ ∧ J s2.cs ∧ (∀ y ∈ ys, ∃ d ∈ ds, P d y) ∧ ys.length ≤ ds.length
  | [], s, hw, hj, _ => ⟨[], s, by rw [compL], hw, hj, (fun y hy => nomatch hy), Nat.le_refl _⟩
  | d :: ds, s, hw, hj, h => by
    obtain ⟨s1, h1, c, s2, h2, h3, h4⟩ := h d List.mem_cons_self s.cs hj
    have ih := fun (s : S) hw hj => comp_st J P (ds := ds) (s := s) hw hj fun e he => h e (List.mem_cons_of_mem _ he)
    have e : wipeS vs s = ⟨wipeL vs ρ, s.cs⟩ := by unfold wipeS; rw [hw]
    rw [compL, e, h1, bind_ok, h2, bind_ok]
    cases c with
    | false =>
      obtain ⟨k1, k2⟩ := h3 rfl
      obtain ⟨ys, s4, a1, a2, a3, a4, a5⟩ := ih s2 k1 k2
      refine ⟨ys, s4, by rw [if_neg (by decide), a1], a2, a3, fun y hy => ?_, by simp only [List.length_cons]; omega⟩
      obtain ⟨d', m, p⟩ := a4 y hy
      exact ⟨d', List.mem_cons_of_mem _ m, p⟩
    | true =>
      obtain ⟨y, s3, b1, b2, b3, b4⟩ := h4 rfl
      obtain ⟨ys, s4, a1, a2, a3, a4, a5⟩ := ih s3 b2 b3
      refine ⟨y :: ys, s4, by rw [if_pos rfl, b1, bind_ok, a1, bind_ok], a2, a3, fun z hz => ?_, by simp only [List.length_cons]; omega⟩
      rcases List.mem_cons.mp hz with rfl | hz
      · exact ⟨d, List.mem_cons_self, b4⟩
      · obtain ⟨d', m, p⟩ := a4 z hz
        exact ⟨d', List.mem_cons_of_mem _ m, p⟩
theorem comp_len {vs : List Nat} : ∀ {ds : List D} {s s2 : S} {ys : List D}, compL vs g tYes f ds s = .ok ys s2 → ys.length = ds.length
  | [], s, s2, ys, h => by rw [compL] at h; cases h; rfl
  | d :: ds, s, s2, ys, h => by
    rw [compL] at h
    cases h1 : g d (wipeS vs s) with
    | stuck => rw [h1] at h; cases h
    | exc c x s1 => rw [h1] at h; cases h
    | ok u s1 =>
      rw [h1, bind_ok] at h
      have h : ((Res.ok true s1).bind fun b s2 => if b = true then ((f s2).bind fun y s3 => (compL vs g tYes f ds s3).bind fun ys s4 => .ok (y :: ys) s4) else compL vs g tYes f ds s2) = .ok ys s2 := h
      rw [bind_ok, if_pos rfl] at h
      cases h2 : f s1 with
      | stuck => rw [h2] at h; cases h
      | exc c x s1 => rw [h2] at h; cases h
      | ok y s3 =>
        rw [h2, bind_ok] at h
        cases h3 : compL vs g tYes f ds s3 with
        | stuck => rw [h3] at h; cases h
        | exc c x s1 => rw [h3] at h; cases h
        | ok zs s4 =>
          rw [h3, bind_ok] at h
          cases h
          rw [List.length_cons, List.length_cons, comp_len h3]
theorem lc_st {vs : List Nat} {ds : List D} {s0 s : S} (J : List Cell → Prop) (P : D → D → Prop) (hi : fi s = .ok ds s0) (hl : ds.length ≤ 100000) (hJ : J s0.cs)
    (h : ∀ d ∈ ds, ∀ cs, J cs → ∃ s1, g d ⟨wipeL vs s0.ρ, cs⟩ = .ok () s1 ∧ ∃ b s2, t s1 = .ok b s2 ∧ (b = false → wipeL vs s2.ρ = wipeL vs s0.ρ ∧ J s2.cs) ∧ (b = true → ∃ y s3, f s2 = .ok y s3 ∧ wipeL vs s3.ρ = wipeL vs s0.ρ ∧ J s3.cs ∧ P d y)) (hr : restL s0.ρ vs s0.ρ = s0.ρ) :
    ∃ ys cs, aLc vs fi g t f s = .ok ys ⟨s0.ρ, cs⟩ ∧ J cs ∧ (∀ y ∈ ys, ∃ d ∈ ds, P d y) ∧ ys.length ≤ ds.length ∧ ((∀ s, t s = tYes s) → ys.length = ds.length) := by
  obtain ⟨ys, s2, k1, k2, k3, k4, k5⟩ := comp_st (s := s0) J P rfl hJ h
  refine ⟨ys, s2.cs, ?_, k3, k4, k5, fun ht => ?_⟩
  · unfold aLc
    rw [hi, bind_ok, if_pos hl, k1, nox_ok, bind_ok]
    have e3 : restS vs s0 s2 = ⟨s0.ρ, s2.cs⟩ := by
      unfold restS
      rw [← restL_wipe, k2, restL_wipe, hr]
    rw [e3]
  · have : t = tYes := funext ht
    subst this
    exact comp_len k1
/-- without a test -/
theorem lc_map {vs : List Nat} {fy : D → D} {ds : List D} {s0 s : S} (hi : fi s = .ok ds s0) (hl : ds.length ≤ 100000) (h : ∀ d ∈ ds, ∃ s1, g d (wipeS vs s0) = .ok () s1 ∧ f s1 = .ok (fy d) s1 ∧ wipeS vs s1 = wipeS vs s0) (hr : restL s0.ρ vs s0.ρ = s0.ρ) :
    aLc vs fi g tYes f s = .ok (ds.map fy) s0 := by
  have e := lc_ok (t := tYes) (tb := fun _ => true) (fy := fy) hi hl (fun d hd => let ⟨s1, h1, h2, h3⟩ := h d hd; ⟨s1, h1, rfl, fun _ => h2, h3⟩) hr
  rw [e, List.filter_eq_self.mpr fun _ _ => rfl]
theorem all_map {β : Type} {F : β → D} {Q : β → Prop} : ∀ {ys : List D}, (∀ y ∈ ys, ∃ r, Q r ∧ y = F r) → ∃ rs : List β, ys = rs.map F ∧ ∀ r ∈ rs, Q r
  | [], _ => ⟨[], rfl, fun _ h => nomatch h⟩
  | y :: ys, h => by
    obtain ⟨r, h1, h2⟩ := h y List.mem_cons_self
    obtain ⟨rs, h3, h4⟩ := all_map fun z hz => h z (List.mem_cons_of_mem _ hz)
    refine ⟨r :: rs, by rw [h2, h3, List.map_cons], fun x hx => ?_⟩
    rcases List.mem_cons.mp hx with rfl | hx
    · exact h1
    · exact h4 x hx
/-- a loop that makes our list longer -/
theorem forL_acc {seg : D → List D} {I : List D → S → Prop} : ∀ {ds : List D} {acc : List D} {s : S}, I acc s → acc.length + (ds.flatMap seg).length ≤ 100000 →
    (∀ d ∈ ds, ∀ acc s, I acc s → acc.length + (seg d).length ≤ 100000 → ∃ s', ((g d s).bind fun _ s1 => b s1) = .ok .nx s' ∧ I (acc ++ seg d) s') → ∃ s', forL g b ds s = .ok .nx s' ∧ I (acc ++ ds.flatMap seg) s'
  | [], acc, s, hi, _, _ => ⟨s, forL_nil, by simpa using hi⟩
  | d :: ds, acc, s, hi, hl, h => by
    rw [List.flatMap_cons, List.length_append] at hl
    obtain ⟨s1, h1, h2⟩ := h d List.mem_cons_self acc s hi (by omega)
    obtain ⟨s2, k1, k2⟩ := forL_acc (ds := ds) h2 (by rw [List.length_append]; omega) fun e he => h e (List.mem_cons_of_mem _ he)
    refine ⟨s2, ?_, by rw [List.flatMap_cons, ← List.append_assoc]; exact k2⟩
    rw [forL_cons]
    cases hg : g d s with
    | stuck => rw [hg] at h1; cases h1
    | exc c x s1 => rw [hg] at h1; cases h1
    | ok u s1 =>
      rw [hg] at h1
      simp only [bind_ok] at h1 ⊢
      rw [h1]
      exact k1
theorem ite_ok {β : Type} (c : Prop) [Decidable c] (a b : β) (s : S) : (if c then Res.ok a s else .ok b s) = .ok (if c then a else b) s := by split <;> rfl
theorem ite_bl (c : Prop) [Decidable c] (a b : Bool) : (if c then D.bl a else .bl b) = .bl (if c then a else b) := by split <;> rfl
theorem bools_all {β : Type} (l : List β) (p : β → Bool) : boolsD (l.map fun x => D.bl (p x)) = some (l.map p) := by
  have := bools_map (l.map p)
  rw [List.map_map] at this
  exact this
@[simp] theorem x_all (l : List D) : allD (.lst l) = (boolsD l).map fun bs => .bl (bs.all id) := Eq.trans rfl rfl
@[simp] theorem x_any (l : List D) : anyD (.lst l) = (boolsD l).map fun bs => .bl (bs.any id) := Eq.trans rfl rfl
end
end Z
/-! ## cuts -/
namespace Z
open PySem PySem.Spec L2 GxR
open PyProof.Rows hiding St
theorem cut_from {l : List D} {i : Int} (h : 0 ≤ i) : cutD l (some i) none = l.drop i.toNat := by
  unfold cutD
  have e1 : HT.sIx l.length 0 (some i) = min i.toNat l.length := by
    show (if i < 0 then _ else _) = _
    rw [if_neg (by omega)]
  rw [e1, HT.sIx_none]
  by_cases hl : i.toNat ≤ l.length
  · rw [Nat.min_eq_left hl]
    exact List.take_of_length_le (by rw [List.length_drop]; exact Nat.le_refl _)
  · rw [Nat.min_eq_right (by omega), List.drop_eq_nil_of_le (Nat.le_refl _), List.take_nil, List.drop_eq_nil_of_le (by omega)]
theorem cut_to {l : List D} {i : Int} (h : 0 ≤ i) : cutD l none (some i) = l.take i.toNat := by
  unfold cutD
  have e1 : HT.sIx l.length l.length (some i) = min i.toNat l.length := by
    show (if i < 0 then _ else _) = _
    rw [if_neg (by omega)]
  rw [e1, HT.sIx_none, List.drop_zero, Nat.sub_zero, ← List.take_eq_take_min]
@[simp] theorem cut_last (l : List D) : cutD l none (some (-1)) = l.dropLast := by
  unfold cutD
  have e1 : HT.sIx l.length l.length (some (-1)) = l.length - 1 := by
    show (if (-1 : Int) < 0 then ((-1 : Int) + (l.length : Int)).toNat else min ((-1 : Int)).toNat l.length) = _
    rw [if_pos (by decide)]
    omega
  rw [e1, HT.sIx_none, List.drop_zero, Nat.sub_zero, List.dropLast_eq_take]
@[simp] theorem cut_2 (x y : D) (l : List D) : cutD (x :: y :: l) (some 2) none = l := by
  rw [cut_from (by decide)]
  rfl
end Z
/-! ## errors let out and caught; all, any, sum of a generator expression -/
namespace Z
open PySem PySem.Spec L2 GxR
open PyProof.Rows hiding St
section
variable {s s0 s1 : S} {f : Ex} {b : Ss} {fi : Is} {g : Tg}
def finX (r : Res Fl) : Res D := match r with
  | .ok (.rt d) s => .ok d ⟨[], s.cs⟩
  | .ok .nx s => .ok .non ⟨[], s.cs⟩
  | .exc c d s => .exc c d ⟨[], s.cs⟩
  | .stuck => .stuck
@[simp] theorem finX_rt (d : D) (s : S) : finX (.ok (.rt d) s) = .ok d ⟨[], s.cs⟩ := Eq.trans rfl rfl
@[simp] theorem finX_nx (s : S) : finX (.ok .nx s) = .ok .non ⟨[], s.cs⟩ := Eq.trans rfl rfl
@[simp] theorem finX_exc (c : Nat) (d : D) (s : S) : finX (.exc c d s) = .exc c d ⟨[], s.cs⟩ := Eq.trans rfl rfl
@[simp] theorem fnS_eq (n : Nat) (b : Ss) (ds : List D) (cs : List Cell) : fnS n b ds cs = finX (b ⟨ds.map .sv ++ List.replicate (n - ds.length) .un, cs⟩) := Eq.trans rfl rfl
def raiseD (c : Nat) (d : D) (s : S) : Res Fl := match d with
  | .str n => .exc c (.str n) s
  | _ => .stuck
@[simp] theorem raiseD_str (c n : Nat) (s : S) : raiseD c (.str n) s = .exc c (.str n) s := Eq.trans rfl rfl
@[simp] theorem sRaise_eq (c : Nat) : sRaise c f s = (f s).bind fun d s1 => raiseD c d s1 := by
  unfold sRaise
  congr 1
def tryR (c : Nat) (g : D → D) (i : Nat) (r : Res Fl) : Res Fl := match r with
  | .exc c' d s1 => if c' = c ∧ i < s1.ρ.length then .ok (.rt (g d)) s1 else .stuck
  | r => r
@[simp] theorem tryR_ok (c : Nat) (g : D → D) (i : Nat) (fl : Fl) (s : S) : tryR c g i (.ok fl s) = .ok fl s := Eq.trans rfl rfl
@[simp] theorem tryR_exc (c : Nat) (g : D → D) (i : Nat) (d : D) (s : S) : tryR c g i (.exc c d s) = if i < s.ρ.length then .ok (.rt (g d)) s else .stuck := by
  unfold tryR
  simp
@[simp] theorem sTry1_eq (c : Nat) (g : D → D) (i : Nat) : sTry1 c g i b s = tryR c g i (b s) := by
  unfold sTry1 tryR
  cases b s <;> rfl
theorem tryR_ite (c : Nat) (g : D → D) (i : Nat) (p : Prop) [Decidable p] (a b : Res Fl) : tryR c g i (if p then a else b) = if p then tryR c g i a else tryR c g i b := by split <;> rfl
theorem finX_ite (p : Prop) [Decidable p] (a b : Res Fl) : finX (if p then a else b) = if p then finX a else finX b := by split <;> rfl
@[simp] theorem x_multup (a : List D) (j : Int) : mulD (.tup a) (.int j) = if a ≠ [] ∧ 2 ≤ j ∧ j ≤ 1000 ∧ a.length ≤ 1000 then some (.tup (List.replicate j.toNat a).flatten) else none := Eq.trans rfl rfl
@[simp] theorem eDI_eq {fa fb : Ex} : eDI fa fb s = (fa s).bind fun x s1 => (fb s1).bind fun y s2 => match x, y with | .dic l, .int i => lift (dicAt l i) s2 | _, _ => .stuck := Eq.trans rfl rfl
theorem gen_step {brk : Bool} {vs : List Nat} {tb : D → Bool} : ∀ {ds : List D} {s : S}, wipeS vs s = wipeS vs s0 → (∀ d ∈ ds, ∃ s1, g d (wipeS vs s0) = .ok () s1 ∧ f s1 = .ok (.bl (tb d)) s1 ∧ wipeS vs s1 = wipeS vs s0) →
    ∃ s2, genL brk vs g f ds s = .ok (if brk then ds.any tb else ds.all tb) s2 ∧ wipeS vs s2 = wipeS vs s0
  | [], s, hs, _ => ⟨s, by cases brk <;> rfl, hs⟩
  | d :: ds, s, hs, h => by
    obtain ⟨s1, h1, h2, h3⟩ := h d List.mem_cons_self
    rw [genL, hs, h1, bind_ok, h2, bind_ok]
    dsimp only
    by_cases hb : tb d = brk
    · rw [if_pos hb]
      refine ⟨s1, ?_, h3⟩
      cases brk
      · simp [hb]
      · simp [hb]
    · rw [if_neg hb]
      obtain ⟨s2, k1, k2⟩ := gen_step (brk := brk) (ds := ds) (s := s1) h3 fun e he => h e (List.mem_cons_of_mem _ he)
      refine ⟨s2, ?_, k2⟩
      rw [k1]
      cases brk
      · have : tb d = true := by cases e : tb d <;> simp_all
        simp [this]
      · have : tb d = false := by cases e : tb d <;> simp_all
        simp [this]
theorem gen_ok {brk : Bool} {vs : List Nat} {tb : D → Bool} {ds : List D} {s : S} (hi : fi s = .ok ds s0) (h : ∀ d ∈ ds, ∃ s1, g d (wipeS vs s0) = .ok () s1 ∧ f s1 = .ok (.bl (tb d)) s1 ∧ wipeS vs s1 = wipeS vs s0) (hr : restL s0.ρ vs s0.ρ = s0.ρ) :
    eGen brk vs fi g f s = .ok (.bl (if brk then ds.any tb else ds.all tb)) s0 := by
  unfold eGen
  rw [hi, bind_ok]
  obtain ⟨s2, k1, k2⟩ := gen_step (brk := brk) (s := s0) rfl h
  rw [k1, nox_ok, bind_ok]
  have e1 : (wipeS vs s2).cs = (wipeS vs s0).cs := by rw [k2]
  have e1 : s2.cs = s0.cs := e1
  have e2 : (wipeS vs s2).ρ = (wipeS vs s0).ρ := by rw [k2]
  have e2 : wipeL vs s2.ρ = wipeL vs s0.ρ := e2
  have e3 : restS vs s0 s2 = s0 := by
    unfold restS
    rw [e1, ← restL_wipe, e2, restL_wipe, hr]
  rw [e3]
end
end Z
/-! ## a comprehension that picks of what it walks; a loop that looks for something -/
namespace Z
open PySem PySem.Spec L2 GxR
open PyProof.Rows hiding St
section
variable {s s0 : S} {f : Ex} {fi : Is} {g : Tg} {t : Ts} {b : Ss}
theorem comp_sub {vs : List Nat} {ρ : List Slot} (J : List Cell → Prop) : ∀ {ds : List D} {s : S}, wipeL vs s.ρ = wipeL vs ρ → J s.cs →
    (∀ d ∈ ds, ∀ cs, J cs → ∃ s1, g d ⟨wipeL vs ρ, cs⟩ = .ok () s1 ∧ ∃ b s2, t s1 = .ok b s2 ∧ (b = false → wipeL vs s2.ρ = wipeL vs ρ ∧ J s2.cs) ∧ (b = true → ∃ s3, f s2 = .ok d s3 ∧ wipeL vs s3.ρ = wipeL vs ρ ∧ J s3.cs)) →
    ∃ ys s2, compL vs g t f ds s = .ok ys s2 ∧ wipeL vs s2.ρ = wipeL vs ρ ∧ J s2.cs ∧ ys.Sublist ds
  | [], s, hw, hj, _ => ⟨[], s, by rw [compL], hw, hj, List.Sublist.refl _⟩
  | d :: ds, s, hw, hj, h => by
    obtain ⟨s1, h1, c, s2, h2, h3, h4⟩ := h d List.mem_cons_self s.cs hj
    have ih := fun (s : S) hw hj => comp_sub J (ds := ds) (s := s) hw hj fun e he => h e (List.mem_cons_of_mem _ he)
    have e : wipeS vs s = ⟨wipeL vs ρ, s.cs⟩ := by unfold wipeS; rw [hw]
    rw [compL, e, h1, bind_ok, h2, bind_ok]
    cases c with
    | false =>
      obtain ⟨k1, k2⟩ := h3 rfl
      obtain ⟨ys, s4, a1, a2, a3, a4⟩ := ih s2 k1 k2
      exact ⟨ys, s4, by rw [if_neg (by decide), a1], a2, a3, List.Sublist.cons _ a4⟩
    | true =>
      obtain ⟨s3, b1, b2, b3⟩ := h4 rfl
      obtain ⟨ys, s4, a1, a2, a3, a4⟩ := ih s3 b2 b3
      exact ⟨d :: ys, s4, by rw [if_pos rfl, b1, bind_ok, a1, bind_ok], a2, a3, List.Sublist.cons₂ _ a4⟩
theorem lc_sub {vs : List Nat} {ds : List D} {s0 s : S} (J : List Cell → Prop) (hi : fi s = .ok ds s0) (hl : ds.length ≤ 100000) (hJ : J s0.cs)
    (h : ∀ d ∈ ds, ∀ cs, J cs → ∃ s1, g d ⟨wipeL vs s0.ρ, cs⟩ = .ok () s1 ∧ ∃ b s2, t s1 = .ok b s2 ∧ (b = false → wipeL vs s2.ρ = wipeL vs s0.ρ ∧ J s2.cs) ∧ (b = true → ∃ s3, f s2 = .ok d s3 ∧ wipeL vs s3.ρ = wipeL vs s0.ρ ∧ J s3.cs)) (hr : restL s0.ρ vs s0.ρ = s0.ρ) :
    ∃ ys cs, aLc vs fi g t f s = .ok ys ⟨s0.ρ, cs⟩ ∧ J cs ∧ ys.Sublist ds := by
  obtain ⟨ys, s2, k1, k2, k3, k4⟩ := comp_sub (s := s0) J rfl hJ h
  refine ⟨ys, s2.cs, ?_, k3, k4⟩
  unfold aLc
  rw [hi, bind_ok, if_pos hl, k1, nox_ok, bind_ok]
  have e3 : restS vs s0 s2 = ⟨s0.ρ, s2.cs⟩ := by
    unfold restS
    rw [← restL_wipe, k2, restL_wipe, hr]
  rw [e3]
/-- a loop that returns at the first item of a kind -/
theorem forL_find {tb : D → Bool} {out : D → D} (I : S → Prop) : ∀ {ds : List D} {s : S}, I s → (∀ d ∈ ds, ∀ s, I s → ∃ s', I s' ∧ ((g d s).bind fun _ s1 => b s1) = .ok (if tb d then .rt (out d) else .nx) s') →
    ∃ s', I s' ∧ forL g b ds s = .ok (match ds.find? tb with | some d => .rt (out d) | none => .nx) s'
  | [], s, hi, _ => ⟨s, hi, forL_nil⟩
  | d :: ds, s, hi, h => by
    obtain ⟨s1, i1, e1⟩ := h d List.mem_cons_self s hi
    rw [forL_cons]
    rw [show (g d s).bind (fun _ s1 => (b s1).bind fun fl s2 => onNx fl s2 (forL g b ds)) = ((g d s).bind fun _ s1 => b s1).bind fun fl s2 => onNx fl s2 (forL g b ds) from by cases g d s <;> rfl]
    rw [e1, bind_ok]
    cases ht : tb d with
    | true =>
      refine ⟨s1, i1, ?_⟩
      simp [List.find?_cons, ht]
    | false =>
      obtain ⟨s2, i2, e2⟩ := forL_find I (ds := ds) i1 fun e he => h e (List.mem_cons_of_mem _ he)
      refine ⟨s2, i2, ?_⟩
      simp [List.find?_cons, ht, e2]
end
section
variable {s s0 : S} {f : Ex} {fi : Is} {g : Tg} {t : Ts}
@[simp] theorem eIdx_eq {fo fe : Ex} : eIdx fo fe s = (fo s).bind fun x s1 => match x with | .lst l => (fe s1).bind fun y s2 => lift (idxD (.lst l) y) s2 | _ => .stuck := Eq.trans rfl rfl
@[simp] theorem iEnum_eq : iEnumerate f s = (f s).bind fun x s1 => match x with | .tup l => .ok (enD 0 l) s1 | .lst l => .ok (enD 0 l) s1 | _ => .stuck := Eq.trans rfl rfl
theorem sum_step {vs : List Nat} {tb : D → Bool} {n : D → Int} : ∀ {ds : List D} {s : S} {acc : Int}, wipeS vs s = wipeS vs s0 → 0 ≤ acc → acc + (((ds.filter tb).map n).sum) ≤ 1000000 → (∀ d ∈ ds, 0 ≤ n d) →
    (∀ d ∈ ds, ∃ s1, g d (wipeS vs s0) = .ok () s1 ∧ t s1 = .ok (tb d) s1 ∧ (tb d = true → f s1 = .ok (.int (n d)) s1) ∧ wipeS vs s1 = wipeS vs s0) →
    ∃ s2, sumL vs g t f acc ds s = .ok (acc + ((ds.filter tb).map n).sum) s2 ∧ wipeS vs s2 = wipeS vs s0
  | [], s, acc, hs, _, _, _, _ => ⟨s, by simp [sumL], hs⟩
  | d :: ds, s, acc, hs, h0, hb, hn, h => by
    obtain ⟨s1, h1, h2, h3, h4⟩ := h d List.mem_cons_self
    have nn : 0 ≤ ((ds.filter tb).map n).sum := by
      have : ∀ l : List D, (∀ d ∈ l, 0 ≤ n d) → 0 ≤ (l.map n).sum := by
        intro l
        induction l with
        | nil => intro _; simp
        | cons x l ih =>
          intro hx
          have a1 := hx x List.mem_cons_self
          have a2 := ih fun y hy => hx y (List.mem_cons_of_mem _ hy)
          simp only [List.map_cons, List.sum_cons]
          omega
      exact this _ fun y hy => hn y (List.mem_cons_of_mem _ (List.mem_filter.mp hy).1)
    have nd := hn d List.mem_cons_self
    rw [sumL, hs, h1, bind_ok, h2, bind_ok]
    cases ht : tb d with
    | false =>
      have ef : (d :: ds).filter tb = ds.filter tb := List.filter_cons_of_neg (by rw [ht]; exact Bool.false_ne_true)
      rw [ef] at hb ⊢
      obtain ⟨s2, k1, k2⟩ := sum_step (ds := ds) (s := s1) (acc := acc) h4 h0 hb (fun e he => hn e (List.mem_cons_of_mem _ he)) fun e he => h e (List.mem_cons_of_mem _ he)
      exact ⟨s2, by rw [if_neg Bool.false_ne_true]; exact k1, k2⟩
    | true =>
      have ef : (d :: ds).filter tb = d :: ds.filter tb := List.filter_cons_of_pos ht
      rw [ef, List.map_cons, List.sum_cons] at hb ⊢
      obtain ⟨s2, k1, k2⟩ := sum_step (ds := ds) (s := s1) (acc := acc + n d) h4 (by omega) (by omega) (fun e he => hn e (List.mem_cons_of_mem _ he)) fun e he => h e (List.mem_cons_of_mem _ he)
      refine ⟨s2, ?_, k2⟩
      have i1 : InL (n d) ∧ InL (acc + n d) := by
        unfold InL
        omega
      rw [if_pos rfl, h3 ht, bind_ok]
      dsimp only
      rw [if_pos i1, k1, Int.add_assoc]
end
end Z
/-! ## what is walked is made of something -/
namespace Z
open PySem PySem.Spec L2 GxR
open PyProof.Rows hiding St
section
variable {α : Type} {s s0 : S} {f : Ex} {fi : Is} {g : Tg} {t : Ts} {b : Ss} {F : α → D}
theorem comp_okM {vs : List Nat} {fy : α → D} {tb : α → Bool} : ∀ {l : List α} {s : S}, wipeS vs s = wipeS vs s0 →
    (∀ a ∈ l, ∃ s1, g (F a) (wipeS vs s0) = .ok () s1 ∧ t s1 = .ok (tb a) s1 ∧ (tb a = true → f s1 = .ok (fy a) s1) ∧ wipeS vs s1 = wipeS vs s0) →
    ∃ s2, compL vs g t f (l.map F) s = .ok ((l.filter tb).map fy) s2 ∧ wipeS vs s2 = wipeS vs s0
  | [], s, hs, _ => ⟨s, by simp [compL], hs⟩
  | a :: l, s, hs, h => by
    obtain ⟨s1, h1, h2, h3, h4⟩ := h a List.mem_cons_self
    obtain ⟨s2, k1, k2⟩ := comp_okM (fy := fy) (tb := tb) (l := l) (s := s1) h4 fun e he => h e (List.mem_cons_of_mem _ he)
    refine ⟨s2, ?_, k2⟩
    rw [List.map_cons, compL, hs, h1, bind_ok, h2, bind_ok]
    cases ht : tb a with
    | true => rw [if_pos rfl, h3 ht, bind_ok, k1, bind_ok, List.filter_cons_of_pos ht, List.map_cons]
    | false => rw [if_neg Bool.false_ne_true, k1, List.filter_cons_of_neg (by rw [ht]; exact Bool.false_ne_true)]
theorem lc_okM {vs : List Nat} {fy : α → D} {tb : α → Bool} {l : List α} (hi : fi s = .ok (l.map F) s0) (hl : l.length ≤ 100000)
    (h : ∀ a ∈ l, ∃ s1, g (F a) (wipeS vs s0) = .ok () s1 ∧ t s1 = .ok (tb a) s1 ∧ (tb a = true → f s1 = .ok (fy a) s1) ∧ wipeS vs s1 = wipeS vs s0) (hr : restL s0.ρ vs s0.ρ = s0.ρ) :
    aLc vs fi g t f s = .ok ((l.filter tb).map fy) s0 := by
  unfold aLc
  rw [hi, bind_ok, if_pos (by rw [List.length_map]; exact hl)]
  obtain ⟨s2, k1, k2⟩ := comp_okM (s := s0) (fy := fy) (tb := tb) rfl h
  rw [k1, nox_ok, bind_ok]
  have e1 : (wipeS vs s2).cs = (wipeS vs s0).cs := by rw [k2]
  have e1 : s2.cs = s0.cs := e1
  have e2 : (wipeS vs s2).ρ = (wipeS vs s0).ρ := by rw [k2]
  have e2 : wipeL vs s2.ρ = wipeL vs s0.ρ := e2
  have e3 : restS vs s0 s2 = s0 := by
    unfold restS
    rw [e1, ← restL_wipe, e2, restL_wipe, hr]
  rw [e3]
theorem lc_mapM {vs : List Nat} {fy : α → D} {l : List α} (hi : fi s = .ok (l.map F) s0) (hl : l.length ≤ 100000)
    (h : ∀ a ∈ l, ∃ s1, g (F a) (wipeS vs s0) = .ok () s1 ∧ f s1 = .ok (fy a) s1 ∧ wipeS vs s1 = wipeS vs s0) (hr : restL s0.ρ vs s0.ρ = s0.ρ) :
    aLc vs fi g tYes f s = .ok (l.map fy) s0 := by
  have e := lc_okM (t := tYes) (tb := fun _ => true) (fy := fy) hi hl (fun a ha => let ⟨s1, h1, h2, h3⟩ := h a ha; ⟨s1, h1, rfl, fun _ => h2, h3⟩) hr
  rw [e, List.filter_eq_self.mpr fun _ _ => rfl]
theorem forL_accM {seg : α → List D} {I : List D → S → Prop} : ∀ {l : List α} {acc : List D} {s : S}, I acc s → acc.length + (l.flatMap seg).length ≤ 100000 →
    (∀ a ∈ l, ∀ acc s, I acc s → acc.length + (seg a).length ≤ 100000 → ∃ s', ((g (F a) s).bind fun _ s1 => b s1) = .ok .nx s' ∧ I (acc ++ seg a) s') → ∃ s', forL g b (l.map F) s = .ok .nx s' ∧ I (acc ++ l.flatMap seg) s'
  | [], acc, s, hi, _, _ => ⟨s, forL_nil, by simpa using hi⟩
  | a :: l, acc, s, hi, hl, h => by
    rw [List.flatMap_cons, List.length_append] at hl
    obtain ⟨s1, h1, h2⟩ := h a List.mem_cons_self acc s hi (by omega)
    obtain ⟨s2, k1, k2⟩ := forL_accM (l := l) h2 (by rw [List.length_append]; omega) fun e he => h e (List.mem_cons_of_mem _ he)
    refine ⟨s2, ?_, by rw [List.flatMap_cons, ← List.append_assoc]; exact k2⟩
    rw [List.map_cons, forL_cons]
    rw [show (g (F a) s).bind (fun _ s1 => (b s1).bind fun fl s2 => onNx fl s2 (forL g b (l.map F))) = ((g (F a) s).bind fun _ s1 => b s1).bind fun fl s2 => onNx fl s2 (forL g b (l.map F)) from by cases g (F a) s <;> rfl]
    rw [h1, bind_ok]
    exact k1
theorem enD_eq (l : List D) : enD 0 l = (List.range l.length).map fun (k : Nat) => D.tup [.int (k : Nat), l.getD k .non] := by
  refine List.ext_getElem? fun i => ?_
  rw [enD_get, Nat.zero_add, List.getElem?_map]
  by_cases hi : i < l.length
  · simp [hi, List.getD]
  · simp [hi]
theorem enM (l : List α) (d : α) : enD 0 (l.map F) = (List.range l.length).map fun (k : Nat) => D.tup [.int (k : Nat), F (l.getD k d)] := by
  rw [enD_eq, List.length_map]
  refine List.map_congr_left fun k hk => ?_
  have hk := List.mem_range.mp hk
  simp [List.getD, hk]
theorem rngM (n : Nat) : rngL 0 (n : Nat) = (List.range n).map fun (k : Nat) => D.int (k : Nat) := by
  unfold rngL
  simp
end
end Z
/-! ## list(range(n)), computed -/
namespace Z
open PySem PySem.Spec L2 GxR
open PyProof.Rows hiding St
variable {f : Ex}
@[simp] theorem x_aLr {s : S} : aLr f s = (f s).bind fun x s1 => onI x fun j => if -(2 ^ 62) ≤ j ∧ j ≤ 100000 then .ok (rngL 0 j) s1 else .stuck := by
  unfold aLr
  congr 1
end Z
/-! ## comprehensions over lists of one kind, by rewriting -/
namespace Z
open PySem PySem.Spec L2 GxR
open PyProof.Rows hiding St
section
variable {α β : Type} {s : S} {f : Ex} {fi : Is} {t : Ts} {i : Nat} {inj : α → D}
theorem wipe_one (s : S) (i : Nat) : wipeS [i] s = ⟨s.ρ.set i .un, s.cs⟩ := rfl
theorem set_un (s : S) (i : Nat) (d : D) : gN i d (wipeS [i] s) = .ok () ⟨s.ρ.set i (.sv d), s.cs⟩ := by
  show Res.ok () (⟨(s.ρ.set i .un).set i (.sv d), s.cs⟩ : S) = _
  rw [List.set_set]
theorem wipe_set1 (s : S) (i : Nat) (d : D) : wipeS [i] ⟨s.ρ.set i (.sv d), s.cs⟩ = wipeS [i] s := by
  show (⟨(s.ρ.set i (.sv d)).set i .un, s.cs⟩ : S) = ⟨s.ρ.set i .un, s.cs⟩
  rw [List.set_set]
/-- a comprehension with a test -/
theorem lcT (xs : List α) (tb : α → Bool) (fy : α → D) (hi : fi s = .ok (xs.map inj) s) (hl : xs.length ≤ 100000) (hr : restL s.ρ [i] s.ρ = s.ρ)
    (h : ∀ x ∈ xs, t ⟨s.ρ.set i (.sv (inj x)), s.cs⟩ = .ok (tb x) ⟨s.ρ.set i (.sv (inj x)), s.cs⟩ ∧ (tb x = true → f ⟨s.ρ.set i (.sv (inj x)), s.cs⟩ = .ok (fy x) ⟨s.ρ.set i (.sv (inj x)), s.cs⟩)) :
    aLc [i] fi (gN i) t f s = .ok ((xs.filter tb).map fy) s := by
  unfold aLc
  rw [hi, bind_ok, List.length_map, if_pos hl]
  have key : ∀ (ys : List α) (s' : S), (∀ x ∈ ys, x ∈ xs) → wipeS [i] s' = wipeS [i] s → ∃ s2, compL [i] (gN i) t f (ys.map inj) s' = .ok ((ys.filter tb).map fy) s2 ∧ wipeS [i] s2 = wipeS [i] s := by
    intro ys
    induction ys with
    | nil => intro s' _ hw; exact ⟨s', by rw [List.map_nil, compL]; rfl, hw⟩
    | cons y ys ih =>
      intro s' hm hw
      obtain ⟨h1, h2⟩ := h y (hm y List.mem_cons_self)
      obtain ⟨s2, k1, k2⟩ := ih ⟨s.ρ.set i (.sv (inj y)), s.cs⟩ (fun x hx => hm x (List.mem_cons_of_mem _ hx)) (wipe_set1 s i _)
      refine ⟨s2, ?_, k2⟩
      rw [List.map_cons, compL, hw, set_un, bind_ok, h1, bind_ok]
      cases ht : tb y with
      | false => rw [if_neg (by decide), k1, List.filter_cons_of_neg (by rw [ht]; decide)]
      | true => rw [if_pos rfl, h2 ht, bind_ok, k1, bind_ok, List.filter_cons_of_pos ht, List.map_cons]
  obtain ⟨s2, k1, k2⟩ := key xs s (fun _ h => h) rfl
  rw [k1, nox_ok, bind_ok]
  have e1 : (wipeS [i] s2).cs = (wipeS [i] s).cs := by rw [k2]
  have e1 : s2.cs = s.cs := e1
  have e2 : (wipeS [i] s2).ρ = (wipeS [i] s).ρ := by rw [k2]
  have e2 : wipeL [i] s2.ρ = wipeL [i] s.ρ := e2
  have e3 : restS [i] s s2 = s := by
    unfold restS
    rw [e1, ← restL_wipe, e2, restL_wipe, hr]
  rw [e3]
theorem lcM (xs : List α) (fy : α → D) (hi : fi s = .ok (xs.map inj) s) (hl : xs.length ≤ 100000) (hr : restL s.ρ [i] s.ρ = s.ρ)
    (h : ∀ x ∈ xs, f ⟨s.ρ.set i (.sv (inj x)), s.cs⟩ = .ok (fy x) ⟨s.ρ.set i (.sv (inj x)), s.cs⟩) :
    aLc [i] fi (gN i) tYes f s = .ok (xs.map fy) s := by
  have e := lcT (t := tYes) xs (fun _ => true) fy hi hl hr fun x hx => ⟨rfl, fun _ => h x hx⟩
  rwa [List.filter_eq_self.mpr fun _ _ => rfl] at e
/-- all, any -/
theorem genT (brk : Bool) (xs : List α) (tb : α → Bool) (hi : fi s = .ok (xs.map inj) s) (hr : restL s.ρ [i] s.ρ = s.ρ)
    (h : ∀ x ∈ xs, f ⟨s.ρ.set i (.sv (inj x)), s.cs⟩ = .ok (.bl (tb x)) ⟨s.ρ.set i (.sv (inj x)), s.cs⟩) :
    eGen brk [i] fi (gN i) f s = .ok (.bl (if brk = true then xs.any tb else xs.all tb)) s := by
  unfold eGen
  rw [hi, bind_ok]
  have key : ∀ (ys : List α) (s' : S), (∀ x ∈ ys, x ∈ xs) → wipeS [i] s' = wipeS [i] s → ∃ s2, genL brk [i] (gN i) f (ys.map inj) s' = .ok (if brk = true then ys.any tb else ys.all tb) s2 ∧ wipeS [i] s2 = wipeS [i] s := by
    intro ys
    induction ys with
    | nil => intro s' _ hw; exact ⟨s', by rw [List.map_nil, genL]; cases brk <;> rfl, hw⟩
    | cons y ys ih =>
      intro s' hm hw
      have h1 := h y (hm y List.mem_cons_self)
      obtain ⟨s2, k1, k2⟩ := ih ⟨s.ρ.set i (.sv (inj y)), s.cs⟩ (fun x hx => hm x (List.mem_cons_of_mem _ hx)) (wipe_set1 s i _)
      rw [List.map_cons, genL, hw, set_un, bind_ok, h1, bind_ok]
      cases brk <;> cases ht : tb y
      · exact ⟨⟨s.ρ.set i (.sv (inj y)), s.cs⟩, by simp [ht], wipe_set1 s i _⟩
      · exact ⟨s2, by simpa [ht] using k1, k2⟩
      · exact ⟨s2, by simpa [ht] using k1, k2⟩
      · exact ⟨⟨s.ρ.set i (.sv (inj y)), s.cs⟩, by simp [ht], wipe_set1 s i _⟩
  obtain ⟨s2, k1, k2⟩ := key xs s (fun _ h => h) rfl
  rw [k1, nox_ok, bind_ok]
  have e1 : (wipeS [i] s2).cs = (wipeS [i] s).cs := by rw [k2]
  have e1 : s2.cs = s.cs := e1
  have e2 : (wipeS [i] s2).ρ = (wipeS [i] s).ρ := by rw [k2]
  have e2 : wipeL [i] s2.ρ = wipeL [i] s.ρ := e2
  have e3 : restS [i] s s2 = s := by
    unfold restS
    rw [e1, ← restL_wipe, e2, restL_wipe, hr]
  rw [e3]
/-- a comprehension that takes from the stream: what comes, one by one -/
theorem lcS (xs : List α) (J : List Cell → Prop) (P : α → D → Prop) (hi : fi s = .ok (xs.map inj) s) (hl : xs.length ≤ 100000) (hr : restL s.ρ [i] s.ρ = s.ρ) (hJ : J s.cs)
    (h : ∀ x ∈ xs, ∀ cs, J cs → ∃ b cs2, t ⟨s.ρ.set i (.sv (inj x)), cs⟩ = .ok b ⟨s.ρ.set i (.sv (inj x)), cs2⟩ ∧ J cs2 ∧ (b = true → ∃ y cs3, f ⟨s.ρ.set i (.sv (inj x)), cs2⟩ = .ok y ⟨s.ρ.set i (.sv (inj x)), cs3⟩ ∧ J cs3 ∧ P x y)) :
    ∃ (zs : List (α × D)) (cs : List Cell), aLc [i] fi (gN i) t f s = .ok (zs.map (·.2)) ⟨s.ρ, cs⟩ ∧ J cs ∧ (zs.map (·.1)).Sublist xs ∧ (∀ z ∈ zs, P z.1 z.2) ∧ ((∀ s, t s = tYes s) → zs.map (·.1) = xs) := by
  have key : ∀ (ys : List α) (s' : S), (∀ x ∈ ys, x ∈ xs) → wipeL [i] s'.ρ = wipeL [i] s.ρ → J s'.cs → ∃ (zs : List (α × D)) (s2 : S), compL [i] (gN i) t f (ys.map inj) s' = .ok (zs.map (·.2)) s2 ∧ wipeL [i] s2.ρ = wipeL [i] s.ρ ∧ J s2.cs ∧ (zs.map (·.1)).Sublist ys ∧ (∀ z ∈ zs, P z.1 z.2) ∧ ((∀ s, t s = tYes s) → zs.map (·.1) = ys) := by
    intro ys
    induction ys with
    | nil => intro s' _ hw hj; exact ⟨[], s', by rw [List.map_nil, compL]; rfl, hw, hj, .slnil, (fun _ h => nomatch h), fun _ => rfl⟩
    | cons y ys ih =>
      intro s' hm hw hj
      obtain ⟨b, cs2, h1, h2, h3⟩ := h y (hm y List.mem_cons_self) s'.cs hj
      have hm2 : ∀ x ∈ ys, x ∈ xs := fun x hx => hm x (List.mem_cons_of_mem _ hx)
      have w1 : ∀ cs : List Cell, wipeL [i] (⟨s.ρ.set i (.sv (inj y)), cs⟩ : S).ρ = wipeL [i] s.ρ := fun cs => by
        show (s.ρ.set i (.sv (inj y))).set i .un = s.ρ.set i .un
        rw [List.set_set]
      have e0 : gN i (inj y) (wipeS [i] s') = .ok () ⟨s.ρ.set i (.sv (inj y)), s'.cs⟩ := by
        have hw : s'.ρ.set i .un = s.ρ.set i .un := hw
        show Res.ok () (⟨(s'.ρ.set i .un).set i (.sv (inj y)), s'.cs⟩ : S) = _
        rw [hw, List.set_set]
      rw [List.map_cons, compL, e0, bind_ok, h1, bind_ok]
      cases b with
      | false =>
        obtain ⟨zs, s2, k1, k2, k3, k4, k5, k6⟩ := ih ⟨s.ρ.set i (.sv (inj y)), cs2⟩ hm2 (w1 _) h2
        refine ⟨zs, s2, by rw [if_neg (by decide), k1], k2, k3, k4.cons _, k5, fun z => ?_⟩
        rw [z] at h1
        cases h1
      | true =>
        obtain ⟨v, cs3, f1, f2, f3⟩ := h3 rfl
        obtain ⟨zs, s2, k1, k2, k3, k4, k5, k6⟩ := ih ⟨s.ρ.set i (.sv (inj y)), cs3⟩ hm2 (w1 _) f2
        refine ⟨(y, v) :: zs, s2, by rw [if_pos rfl, f1, bind_ok, k1, bind_ok]; rfl, k2, k3, k4.cons₂ _, fun z hz => ?_, fun z => by rw [List.map_cons, k6 z]⟩
        rcases List.mem_cons.mp hz with rfl | hz
        · exact f3
        · exact k5 z hz
  obtain ⟨zs, s2, k1, k2, k3, k4, k5, k6⟩ := key xs s (fun _ h => h) rfl hJ
  refine ⟨zs, s2.cs, ?_, k3, k4, k5, k6⟩
  unfold aLc
  rw [hi, bind_ok, List.length_map, if_pos hl, k1, nox_ok, bind_ok]
  have e3 : restS [i] s s2 = ⟨s.ρ, s2.cs⟩ := by
    unfold restS
    rw [← restL_wipe, k2, restL_wipe, hr]
  rw [e3]
/-- a loop, turn by turn -/
theorem forT (I : List α → S → Prop) {b : Ss} : ∀ (xs done : List α) (s : S), I done s → (∀ done x rest s, I done s → done ++ x :: rest = done ++ x :: rest → x ∈ xs → ∃ s', b ⟨s.ρ.set i (.sv (inj x)), s.cs⟩ = .ok .nx s' ∧ I (done ++ [x]) s') → ∃ s', forL (gN i) b (xs.map inj) s = .ok .nx s' ∧ I (done ++ xs) s'
  | [], done, s, hi, _ => ⟨s, forL_nil, by rw [List.append_nil]; exact hi⟩
  | x :: xs, done, s, hi, h => by
    obtain ⟨s1, h1, h2⟩ := h done x [] s hi rfl List.mem_cons_self
    obtain ⟨s2, k1, k2⟩ := forT I xs (done ++ [x]) s1 h2 fun dn y rest s' hI e hm => h dn y rest s' hI e (List.mem_cons_of_mem _ hm)
    refine ⟨s2, ?_, by rw [List.append_assoc] at k2; exact k2⟩
    rw [List.map_cons, forL_cons]
    show ((Res.ok () (⟨s.ρ.set i (.sv (inj x)), s.cs⟩ : S)).bind fun _ s1 => (b s1).bind fun fl s2 => onNx fl s2 (forL (gN i) b (xs.map inj))) = _
    rw [bind_ok, h1, bind_ok, onNx_nx, k1]
/-- the zts below n -/
def zts (n : Nat) : List Int := (List.range n).map fun (k : Nat) => (k : Int)
theorem rngL_zts (n : Nat) : rngL 0 (n : Int) = (zts n).map D.int := by
  unfold rngL zts
  rw [List.map_map]
  simp [Function.comp_def]
theorem rngL_int (n : Int) : rngL 0 n = (zts n.toNat).map D.int := by
  unfold rngL zts
  rw [List.map_map]
  simp [Function.comp_def]
theorem mem_zts {n : Nat} {x : Int} : x ∈ zts n ↔ 0 ≤ x ∧ x < n := by
  unfold zts
  rw [List.mem_map]
  constructor
  · rintro ⟨k, hk, rfl⟩
    rw [List.mem_range] at hk
    omega
  · rintro ⟨h1, h2⟩
    exact ⟨x.toNat, List.mem_range.mpr (by omega), by omega⟩
@[simp] theorem zts_length (n : Nat) : (zts n).length = n := by simp [zts]
end
end Z
/-! ## .. with targets of any kind -/
namespace Z
open PySem PySem.Spec L2 GxR
open PyProof.Rows hiding St
@[simp] theorem nox_stuck {α : Type} : (Res.stuck : Res α).nox = .stuck := Eq.trans rfl rfl
@[simp] theorem x_eCall0 (F : Fn) (s : S) : eCall0 F s = onF s (F [] s.cs).nox := by
  unfold eCall0
  cases F [] s.cs <;> rfl
section
variable {α β : Type} {s : S} {f : Ex} {fi : Is} {t : Ts} {g : Tg} {vs : List Nat} {inj : α → D}
theorem lcG (xs : List α) (st : α → S) (tb : α → Bool) (fy : α → D) (hi : fi s = .ok (xs.map inj) s) (hl : xs.length ≤ 100000) (hr : restL s.ρ vs s.ρ = s.ρ)
    (h : ∀ x ∈ xs, g (inj x) (wipeS vs s) = .ok () (st x) ∧ t (st x) = .ok (tb x) (st x) ∧ (tb x = true → f (st x) = .ok (fy x) (st x)) ∧ wipeS vs (st x) = wipeS vs s) :
    aLc vs fi g t f s = .ok ((xs.filter tb).map fy) s := by
  unfold aLc
  rw [hi, bind_ok, List.length_map, if_pos hl]
  have key : ∀ (ys : List α) (s' : S), (∀ x ∈ ys, x ∈ xs) → wipeS vs s' = wipeS vs s → ∃ s2, compL vs g t f (ys.map inj) s' = .ok ((ys.filter tb).map fy) s2 ∧ wipeS vs s2 = wipeS vs s := by
    intro ys
    induction ys with
    | nil => intro s' _ hw; exact ⟨s', by rw [List.map_nil, compL]; rfl, hw⟩
    | cons y ys ih =>
      intro s' hm hw
      obtain ⟨h0, h1, h2, h3⟩ := h y (hm y List.mem_cons_self)
      obtain ⟨s2, k1, k2⟩ := ih (st y) (fun x hx => hm x (List.mem_cons_of_mem _ hx)) h3
      refine ⟨s2, ?_, k2⟩
      rw [List.map_cons, compL, hw, h0, bind_ok, h1, bind_ok]
      cases ht : tb y with
      | false => rw [if_neg (by decide), k1, List.filter_cons_of_neg (by rw [ht]; decide)]
      | true => rw [if_pos rfl, h2 ht, bind_ok, k1, bind_ok, List.filter_cons_of_pos ht, List.map_cons]
  obtain ⟨s2, k1, k2⟩ := key xs s (fun _ h => h) rfl
  rw [k1, nox_ok, bind_ok]
  have e1 : (wipeS vs s2).cs = (wipeS vs s).cs := by rw [k2]
  have e1 : s2.cs = s.cs := e1
  have e2 : (wipeS vs s2).ρ = (wipeS vs s).ρ := by rw [k2]
  have e2 : wipeL vs s2.ρ = wipeL vs s.ρ := e2
  have e3 : restS vs s s2 = s := by
    unfold restS
    rw [e1, ← restL_wipe, e2, restL_wipe, hr]
  rw [e3]
theorem lcGM (xs : List α) (st : α → S) (fy : α → D) (hi : fi s = .ok (xs.map inj) s) (hl : xs.length ≤ 100000) (hr : restL s.ρ vs s.ρ = s.ρ)
    (h : ∀ x ∈ xs, g (inj x) (wipeS vs s) = .ok () (st x) ∧ f (st x) = .ok (fy x) (st x) ∧ wipeS vs (st x) = wipeS vs s) :
    aLc vs fi g tYes f s = .ok (xs.map fy) s := by
  have e := lcG (t := tYes) xs st (fun _ => true) fy hi hl hr fun x hx => let ⟨a, b, c⟩ := h x hx; ⟨a, rfl, fun _ => b, c⟩
  rwa [List.filter_eq_self.mpr fun _ _ => rfl] at e
def zipK (ds : List D) (s : S) : Res (List D) := match ds with
  | [.tup l, .tup m] => .ok (zpD l m) s
  | _ => .stuck
@[simp] theorem zipK_2 (l m : List D) (s : S) : zipK [.tup l, .tup m] s = .ok (zpD l m) s := Eq.trans rfl rfl
@[simp] theorem x_iZipT {fs : As} : iZipT fs s = (fs s).bind fun ds s1 => zipK ds s1 := by
  unfold iZipT
  congr 1
def catK (x : Option D) (y : D) (s : S) : Res (List D) := match x, y with
  | some (.lst a), .lst b => if a.length + b.length ≤ 100000 then .ok (a ++ b) s else .stuck
  | _, _ => .stuck
@[simp] theorem catK_ll (a b : List D) (s : S) : catK (some (.lst a)) (.lst b) s = if a.length + b.length ≤ 100000 then .ok (a ++ b) s else .stuck := Eq.trans rfl rfl
@[simp] theorem x_aCatL {i : Nat} {fb : Ex} : aCatL i fb s = onD (slotD i s) fun _ => (fb s).bind fun y s2 => catK (slotD i s2) y s2 := by
  unfold aCatL
  cases slotD i s with
  | none => rfl
  | some x =>
    simp only [onD_some]
    congr 1
theorem zpD_map {γ δ : Type} {p : γ → D} {q : δ → D} : ∀ (l : List γ) (m : List δ), zpD (l.map p) (m.map q) = (l.zip m).map fun z => .tup [p z.1, q z.2]
  | [], m => by cases m <;> rfl
  | _ :: _, [] => rfl
  | a :: l, b :: m => by
    rw [List.map_cons, List.map_cons, zpD, zpD_map l m]
    rfl
theorem zipWith_zip {γ δ ε : Type} (w : γ → δ → ε) : ∀ (l : List γ) (m : List δ), List.zipWith w l m = (l.zip m).map fun z => w z.1 z.2
  | [], m => by cases m <;> rfl
  | _ :: _, [] => rfl
  | a :: l, b :: m => by
    rw [List.zipWith_cons_cons, zipWith_zip w l m]
    rfl
end
end Z
/-! ## computing: new lists of defs, dicts of words, lent lists -/
namespace Z
open PySem PySem.Spec L2 GxR
open PyProof.Rows hiding St
section
variable {F : Fn} {fs : As} {fa fb : Ex} {f g : Ss} {s : S} {i : Nat}
@[simp] theorem x_aCallL : aCallL F fs s = (fs s).bind fun ds s1 => match F ds s1.cs with | .ok (.lst l) s2 => .ok l ⟨s1.ρ, s2.cs⟩ | .exc c d s2 => .exc c d ⟨s1.ρ, s2.cs⟩ | _ => .stuck := Eq.trans rfl rfl
@[simp] theorem x_sRetL : sRetL fs s = (fs s).bind fun l s1 => .ok (.rt (.lst l)) s1 := Eq.trans rfl rfl
@[simp] theorem x_sConsN : sConsN f g s = (f s).bind fun fl s1 => match fl with | .nx => g s1 | .rt _ => .stuck := Eq.trans rfl rfl
@[simp] theorem x_eDW : eDW fa fb s = (fa s).bind fun x s1 => (fb s1).bind fun y s2 => match x, y with | .dic l, .str n => lift (dicW l n) s2 | _, _ => .stuck := Eq.trans rfl rfl
@[simp] theorem x_eInW : eInW fa fb s = (fa s).bind fun y s1 => (fb s1).bind fun x s2 => match y, x with | .str n, .dic l => .ok (.bl (l.any fun q => q.1 == -(n : Int) - 1)) s2 | _, _ => .stuck := Eq.trans rfl rfl
@[simp] theorem x_eCallP : eCallP F i fb s = (match s.ρ[i]? with
  | some (.own _) => (fb s).bind fun e s1 => (match s1.ρ[i]? with
    | some (.own l) => if okD 60 e && okDs 60 l then (match F [.lst l, e] [] with
      | .ok (.bl b) _ => .ok (.bl b) s1
      | _ => .stuck) else .stuck
    | _ => .stuck)
  | _ => .stuck) := Eq.trans rfl rfl
end
end Z
/-! ## computing: dicts as cells -/
namespace Z
open PySem PySem.Spec L2 GxR
open PyProof.Rows hiding St
section
variable {fo fk fe : Ex} {s : S}
@[simp] theorem x_eNewD : eNewD s = .ok (.cell s.cs.length) { s with cs := s.cs ++ [.dic []] } := Eq.trans rfl rfl
@[simp] theorem x_eIxD : eIxD fo fk s = (fo s).bind fun x s1 => (fk s1).bind fun y s2 => match x, y with
  | .cell n, .int k => (match s2.cs[n]? with
    | some (.dic l) => (match dlook l k with
      | some v => .ok (.int v) s2
      | none => .stuck)
    | _ => .stuck)
  | _, _ => .stuck := Eq.trans rfl rfl
@[simp] theorem x_sSetD : sSetD fo fk fe s = (fe s).bind fun d s1 => (fo s1).bind fun x s2 => (fk s2).bind fun y s3 => match x, y, d with
  | .cell n, .int k, .int v => (match s3.cs[n]? with
    | some (.dic l) => if l.length < 100000 then .ok .nx { s3 with cs := s3.cs.set n (.dic ((k, v) :: l)) } else .stuck
    | _ => .stuck)
  | _, _, _ => .stuck := Eq.trans rfl rfl
theorem dlook_self (l : List (Int × Int)) (k v : Int) : dlook ((k, v) :: l) k = some v := by simp [dlook]
theorem dlook_ne (l : List (Int × Int)) {k j : Int} (v : Int) (h : k ≠ j) : dlook ((k, v) :: l) j = dlook l j := by
  have : (k == j) = false := by simp [h]
  simp [dlook, List.find?_cons, this]
end
end Z
namespace V
open PySem PySem.Spec L2 GxR Z
open PyProof.Rows hiding St
def top (i : Nat) : Stmt := PySem.Challenge.pw_allsomeno_k54_whole_models_written_other.main.body.getD i (.Pass ⟨0, 0, 0, 0⟩)
abbrev sis_integer : Stmt := top 10
abbrev Nis_integer : List Str := ["value", "least", "most"]
theorem scis_integer : FnScope Nis_integer ["value", "least", "most"] (defScope sis_integer) := ⟨rfl, rfl, rfl, by decide +kernel, rfl, by decide +kernel, by decide +kernel⟩
abbrev sis_noun : Stmt := top 11
abbrev Nis_noun : List Str := ["signature", "value"]
theorem scis_noun : FnScope Nis_noun ["signature", "value"] (defScope sis_noun) := ⟨rfl, rfl, rfl, by decide +kernel, rfl, by decide +kernel, by decide +kernel⟩
abbrev sis_signature : Stmt := top 12
abbrev Nis_signature : List Str := ["value"]
theorem scis_signature : FnScope Nis_signature ["value"] (defScope sis_signature) := ⟨rfl, rfl, rfl, by decide +kernel, rfl, by decide +kernel, by decide +kernel⟩
abbrev scheck_signature : Stmt := top 13
abbrev Ncheck_signature : List Str := ["signature"]
theorem sccheck_signature : FnScope Ncheck_signature ["signature"] (defScope scheck_signature) := ⟨rfl, rfl, rfl, by decide +kernel, rfl, by decide +kernel, by decide +kernel⟩
abbrev snegated : Stmt := top 14
abbrev Nnegated : List Str := ["sentence", "_", "q", "x", "does", "v", "by", "p", "y", "word"]
theorem scnegated : FnScope Nnegated ["sentence"] (defScope snegated) := ⟨rfl, rfl, rfl, by decide +kernel, rfl, by decide +kernel, by decide +kernel⟩
abbrev s_choices : Stmt := top 18
abbrev N_choices : List Str := ["signature", "word", "nouns", "verbs"]
theorem sc_choices : FnScope N_choices ["signature", "word"] (defScope s_choices) := ⟨rfl, rfl, rfl, by decide +kernel, rfl, by decide +kernel, by decide +kernel⟩
abbrev s_count_with_word : Stmt := top 19
abbrev N_count_with_word : List Str := ["signature", "word", "many", "choice"]
theorem sc_count_with_word : FnScope N_count_with_word ["signature", "word"] (defScope s_count_with_word) := ⟨rfl, rfl, rfl, by decide +kernel, rfl, by decide +kernel, by decide +kernel⟩
abbrev s_sentence_with_word : Stmt := top 20
abbrev N_sentence_with_word : List Str := ["signature", "word", "index", "items", "rest", "choice"]
theorem sc_sentence_with_word : FnScope N_sentence_with_word ["signature", "word", "index"] (defScope s_sentence_with_word) := ⟨rfl, rfl, rfl, by decide +kernel, rfl, by decide +kernel, by decide +kernel⟩
abbrev ssentences_in_order : Stmt := top 21
abbrev Nsentences_in_order : List Str := ["signature", "found", "word", "many", "index"]
theorem scsentences_in_order : FnScope Nsentences_in_order ["signature"] (defScope ssentences_in_order) := ⟨rfl, rfl, rfl, by decide +kernel, rfl, by decide +kernel, by decide +kernel⟩
abbrev sis_ascending : Stmt := top 25
abbrev Nis_ascending : List Str := ["value", "at"]
theorem scis_ascending : FnScope Nis_ascending ["value"] (defScope sis_ascending) := ⟨rfl, rfl, rfl, by decide +kernel, rfl, by decide +kernel, by decide +kernel⟩
abbrev sare_groups : Stmt := top 26
abbrev Nare_groups : List Str := ["many", "value", "group"]
theorem scare_groups : FnScope Nare_groups ["many", "value"] (defScope sare_groups) := ⟨rfl, rfl, rfl, by decide +kernel, rfl, by decide +kernel, by decide +kernel⟩
abbrev s_is_group : Stmt := top 27
abbrev N_is_group : List Str := ["signature", "value", "size", "nouns", "noun"]
theorem sc_is_group : FnScope N_is_group ["signature", "value"] (defScope s_is_group) := ⟨rfl, rfl, rfl, by decide +kernel, rfl, by decide +kernel, by decide +kernel⟩
abbrev s_are_rows : Stmt := top 28
abbrev N_are_rows : List Str := ["many", "value", "row"]
theorem sc_are_rows : FnScope N_are_rows ["many", "value"] (defScope s_are_rows) := ⟨rfl, rfl, rfl, by decide +kernel, rfl, by decide +kernel, by decide +kernel⟩
abbrev s_has_one_for_each_verb : Stmt := top 29
abbrev N_has_one_for_each_verb : List Str := ["signature", "value"]
theorem sc_has_one_for_each_verb : FnScope N_has_one_for_each_verb ["signature", "value"] (defScope s_has_one_for_each_verb) := ⟨rfl, rfl, rfl, by decide +kernel, rfl, by decide +kernel, by decide +kernel⟩
abbrev sis_model : Stmt := top 30
abbrev Nis_model : List Str := ["signature", "value", "groups", "verbs", "selves", "many", "group", "rows", "row"]
theorem scis_model : FnScope Nis_model ["signature", "value"] (defScope sis_model) := ⟨rfl, rfl, rfl, by decide +kernel, rfl, by decide +kernel, by decide +kernel⟩
abbrev scheck_model : Stmt := top 31
abbrev Ncheck_model : List Str := ["signature", "model", "name"]
theorem sccheck_model : FnScope Ncheck_model ["signature", "model", "name"] (defScope scheck_model) := ⟨rfl, rfl, rfl, by decide +kernel, rfl, by decide +kernel, by decide +kernel⟩
abbrev ssays_some : Stmt := top 32
abbrev Nsays_some : List Str := ["sentence"]
theorem scsays_some : FnScope Nsays_some ["sentence"] (defScope ssays_some) := ⟨rfl, rfl, rfl, by decide +kernel, rfl, by decide +kernel, by decide +kernel⟩
abbrev scompares_sizes : Stmt := top 33
abbrev Ncompares_sizes : List Str := ["sentence"]
theorem sccompares_sizes : FnScope Ncompares_sizes ["sentence"] (defScope scompares_sizes) := ⟨rfl, rfl, rfl, by decide +kernel, rfl, by decide +kernel, by decide +kernel⟩
abbrev s_deeds : Stmt := top 34
abbrev N_deeds : List Str := ["model", "group", "v", "by", "y", "groups", "verbs", "selves", "answers", "other", "size", "nouns"]
theorem sc_deeds : FnScope N_deeds ["model", "group", "v", "by", "y"] (defScope s_deeds) := ⟨rfl, rfl, rfl, by decide +kernel, rfl, by decide +kernel, by decide +kernel⟩
abbrev sis_as_said : Stmt := top 35
abbrev Nis_as_said : List Str := ["model", "sentence", "group", "groups", "_", "selves", "nouns", "x", "v", "by", "p", "y", "answers", "word", "does", "answer"]
theorem scis_as_said : FnScope Nis_as_said ["model", "sentence", "group"] (defScope sis_as_said) := ⟨rfl, rfl, rfl, by decide +kernel, rfl, by decide +kernel, by decide +kernel⟩
abbrev sfirst_as_said : Stmt := top 36
abbrev Nfirst_as_said : List Str := ["model", "sentence", "group"]
theorem scfirst_as_said : FnScope Nfirst_as_said ["model", "sentence"] (defScope sfirst_as_said) := ⟨rfl, rfl, rfl, by decide +kernel, rfl, by decide +kernel, by decide +kernel⟩
abbrev ssize_of_noun : Stmt := top 37
abbrev Nsize_of_noun : List Str := ["model", "noun", "size", "nouns"]
theorem scsize_of_noun : FnScope Nsize_of_noun ["model", "noun"] (defScope ssize_of_noun) := ⟨rfl, rfl, rfl, by decide +kernel, rfl, by decide +kernel, by decide +kernel⟩
abbrev sholds_in : Stmt := top 38
abbrev Nholds_in : List Str := ["model", "sentence", "word", "x", "y"]
theorem scholds_in : FnScope Nholds_in ["model", "sentence"] (defScope sholds_in) := ⟨rfl, rfl, rfl, by decide +kernel, rfl, by decide +kernel, by decide +kernel⟩
abbrev s_check_both : Stmt := top 40
abbrev N_check_both : List Str := ["signature", "first", "second"]
theorem sc_check_both : FnScope N_check_both ["signature", "first", "second"] (defScope s_check_both) := ⟨rfl, rfl, rfl, by decide +kernel, rfl, by decide +kernel, by decide +kernel⟩
abbrev s_is_telling : Stmt := top 41
abbrev N_is_telling : List Str := ["first", "second", "sentence"]
theorem sc_is_telling : FnScope N_is_telling ["first", "second", "sentence"] (defScope s_is_telling) := ⟨rfl, rfl, rfl, by decide +kernel, rfl, by decide +kernel, by decide +kernel⟩
abbrev s_first_telling : Stmt := top 42
abbrev N_first_telling : List Str := ["first", "second", "sentences", "sentence"]
theorem sc_first_telling : FnScope N_first_telling ["first", "second", "sentences"] (defScope s_first_telling) := ⟨rfl, rfl, rfl, by decide +kernel, rfl, by decide +kernel, by decide +kernel⟩
abbrev stold_sentence : Stmt := top 43
abbrev Ntold_sentence : List Str := ["signature", "first", "second"]
theorem sctold_sentence : FnScope Ntold_sentence ["signature", "first", "second"] (defScope stold_sentence) := ⟨rfl, rfl, rfl, by decide +kernel, rfl, by decide +kernel, by decide +kernel⟩
abbrev sagree : Stmt := top 44
abbrev Nagree : List Str := ["signature", "first", "second"]
theorem scagree : FnScope Nagree ["signature", "first", "second"] (defScope sagree) := ⟨rfl, rfl, rfl, by decide +kernel, rfl, by decide +kernel, by decide +kernel⟩
abbrev s_moved : Stmt := top 45
abbrev N_moved : List Str := ["row", "many", "group"]
theorem sc_moved : FnScope N_moved ["row", "many"] (defScope s_moved) := ⟨rfl, rfl, rfl, by decide +kernel, rfl, by decide +kernel, by decide +kernel⟩
abbrev sunion : Stmt := top 46
abbrev Nunion : List Str := ["signature", "first", "second", "many", "verbs", "rows", "others", "selves", "row", "other"]
theorem scunion : FnScope Nunion ["signature", "first", "second"] (defScope sunion) := ⟨rfl, rfl, rfl, by decide +kernel, rfl, by decide +kernel, by decide +kernel⟩
abbrev s_law_stream : Stmt := top 48
abbrev N_law_stream : List Str := ["script"]
theorem sc_law_stream : FnScope N_law_stream ["script"] (defScope s_law_stream) := ⟨rfl, rfl, rfl, by decide +kernel, rfl, by decide +kernel, by decide +kernel⟩
abbrev s_law_next : Stmt := top 49
abbrev N_law_next : List Str := ["stream", "many", "k", "cell", "digit"]
theorem sc_law_next : FnScope N_law_next ["stream", "many"] (defScope s_law_next) := ⟨rfl, rfl, rfl, by decide +kernel, rfl, by decide +kernel, by decide +kernel⟩
abbrev s_law_noun_words : Stmt := top 50
abbrev N_law_noun_words : List Str := []
theorem sc_law_noun_words : FnScope N_law_noun_words [] (defScope s_law_noun_words) := ⟨rfl, rfl, rfl, by decide +kernel, rfl, by decide +kernel, by decide +kernel⟩
abbrev s_law_every : Stmt := top 51
abbrev N_law_every : List Str := ["signature", "nouns", "found", "word", "one", "rows", "items", "longer", "row", "other", "item"]
theorem sc_law_every : FnScope N_law_every ["signature"] (defScope s_law_every) := ⟨rfl, rfl, rfl, by decide +kernel, rfl, by decide +kernel, by decide +kernel⟩
abbrev s_law_signature : Stmt := top 52
abbrev N_law_signature : List Str := ["stream"]
theorem sc_law_signature : FnScope N_law_signature ["stream"] (defScope s_law_signature) := ⟨rfl, rfl, rfl, by decide +kernel, rfl, by decide +kernel, by decide +kernel⟩
abbrev s_law_having : Stmt := top 53
abbrev N_law_having : List Str := ["model", "noun", "at"]
theorem sc_law_having : FnScope N_law_having ["model", "noun"] (defScope s_law_having) := ⟨rfl, rfl, rfl, by decide +kernel, rfl, by decide +kernel, by decide +kernel⟩
abbrev s_law_size : Stmt := top 54
abbrev N_law_size : List Str := ["model", "noun", "at"]
theorem sc_law_size : FnScope N_law_size ["model", "noun"] (defScope s_law_size) := ⟨rfl, rfl, rfl, by decide +kernel, rfl, by decide +kernel, by decide +kernel⟩
abbrev s_law_seen : Stmt := top 55
abbrev N_law_seen : List Str := ["model", "group", "verb", "by", "noun", "found", "other", "pair"]
theorem sc_law_seen : FnScope N_law_seen ["model", "group", "verb", "by", "noun"] (defScope s_law_seen) := ⟨rfl, rfl, rfl, by decide +kernel, rfl, by decide +kernel, by decide +kernel⟩
abbrev s_law_says : Stmt := top 56
abbrev N_law_says : List Str := ["model", "sentence", "group", "told", "one"]
theorem sc_law_says : FnScope N_law_says ["model", "sentence", "group"] (defScope s_law_says) := ⟨rfl, rfl, rfl, by decide +kernel, rfl, by decide +kernel, by decide +kernel⟩
abbrev s_law_holds : Stmt := top 57
abbrev N_law_holds : List Str := ["model", "sentence", "word", "told", "group"]
theorem sc_law_holds : FnScope N_law_holds ["model", "sentence"] (defScope s_law_holds) := ⟨rfl, rfl, rfl, by decide +kernel, rfl, by decide +kernel, by decide +kernel⟩
abbrev s_law_some : Stmt := top 58
abbrev N_law_some : List Str := ["stream", "many", "one"]
theorem sc_law_some : FnScope N_law_some ["stream", "many"] (defScope s_law_some) := ⟨rfl, rfl, rfl, by decide +kernel, rfl, by decide +kernel, by decide +kernel⟩
abbrev s_law_model : Stmt := top 59
abbrev N_law_model : List Str := ["stream", "signature", "most", "many", "groups", "verbs", "turn", "verb"]
theorem sc_law_model : FnScope N_law_model ["stream", "signature", "most"] (defScope s_law_model) := ⟨rfl, rfl, rfl, by decide +kernel, rfl, by decide +kernel, by decide +kernel⟩
abbrev s_law_exchanged : Stmt := top 60
abbrev N_law_exchanged : List Str := ["model", "order", "groups", "verbs", "selves", "place", "at", "rows", "row", "other"]
theorem sc_law_exchanged : FnScope N_law_exchanged ["model", "order"] (defScope s_law_exchanged) := ⟨rfl, rfl, rfl, by decide +kernel, rfl, by decide +kernel, by decide +kernel⟩
abbrev s_law_parted : Stmt := top 61
abbrev N_law_parted : List Str := ["model", "at", "groups", "verbs", "selves", "many", "size", "nouns", "rows", "row", "longer", "one"]
theorem sc_law_parted : FnScope N_law_parted ["model", "at"] (defScope s_law_parted) := ⟨rfl, rfl, rfl, by decide +kernel, rfl, by decide +kernel, by decide +kernel⟩
abbrev slaw : Stmt := top 62
abbrev Nlaw : List Str := ["script", "stream", "signature", "model", "many", "left", "order", "others", "great", "every", "other", "sentence", "twice", "free", "turn", "at"]
theorem sclaw : FnScope Nlaw ["script"] (defScope slaw) := ⟨rfl, rfl, rfl, by decide +kernel, rfl, by decide +kernel, by decide +kernel⟩
structure Txt (N : En) (w : World) (mg : Str → Option Value) where
  f_is_integer : Addr
  d_is_integer : FuncData
  F_is_integer : Fun N.K "is_integer" "is_integer" sis_integer f_is_integer d_is_integer
  g_is_integer : mg "is_integer" = some (.ref f_is_integer)
  b_is_integer : Binds N.K d_is_integer ["value", "least", "most"] []
  f_is_noun : Addr
  d_is_noun : FuncData
  F_is_noun : Fun N.K "is_noun" "is_noun" sis_noun f_is_noun d_is_noun
  g_is_noun : mg "is_noun" = some (.ref f_is_noun)
  b_is_noun : Binds N.K d_is_noun ["signature", "value"] []
  f_is_signature : Addr
  d_is_signature : FuncData
  F_is_signature : Fun N.K "is_signature" "is_signature" sis_signature f_is_signature d_is_signature
  g_is_signature : mg "is_signature" = some (.ref f_is_signature)
  b_is_signature : Binds N.K d_is_signature ["value"] []
  f_check_signature : Addr
  d_check_signature : FuncData
  F_check_signature : Fun N.K "check_signature" "check_signature" scheck_signature f_check_signature d_check_signature
  g_check_signature : mg "check_signature" = some (.ref f_check_signature)
  b_check_signature : Binds N.K d_check_signature ["signature"] []
  f_negated : Addr
  d_negated : FuncData
  F_negated : Fun N.K "negated" "negated" snegated f_negated d_negated
  g_negated : mg "negated" = some (.ref f_negated)
  b_negated : Binds N.K d_negated ["sentence"] []
  f__choices : Addr
  d__choices : FuncData
  F__choices : Fun N.K "_choices" "_choices" s_choices f__choices d__choices
  g__choices : mg "_choices" = some (.ref f__choices)
  b__choices : Binds N.K d__choices ["signature", "word"] []
  f__count_with_word : Addr
  d__count_with_word : FuncData
  F__count_with_word : Fun N.K "_count_with_word" "_count_with_word" s_count_with_word f__count_with_word d__count_with_word
  g__count_with_word : mg "_count_with_word" = some (.ref f__count_with_word)
  b__count_with_word : Binds N.K d__count_with_word ["signature", "word"] []
  f__sentence_with_word : Addr
  d__sentence_with_word : FuncData
  F__sentence_with_word : Fun N.K "_sentence_with_word" "_sentence_with_word" s_sentence_with_word f__sentence_with_word d__sentence_with_word
  g__sentence_with_word : mg "_sentence_with_word" = some (.ref f__sentence_with_word)
  b__sentence_with_word : Binds N.K d__sentence_with_word ["signature", "word", "index"] []
  f_sentences_in_order : Addr
  d_sentences_in_order : FuncData
  F_sentences_in_order : Fun N.K "sentences_in_order" "sentences_in_order" ssentences_in_order f_sentences_in_order d_sentences_in_order
  g_sentences_in_order : mg "sentences_in_order" = some (.ref f_sentences_in_order)
  b_sentences_in_order : Binds N.K d_sentences_in_order ["signature"] []
  f_is_ascending : Addr
  d_is_ascending : FuncData
  F_is_ascending : Fun N.K "is_ascending" "is_ascending" sis_ascending f_is_ascending d_is_ascending
  g_is_ascending : mg "is_ascending" = some (.ref f_is_ascending)
  b_is_ascending : Binds N.K d_is_ascending ["value"] []
  f_are_groups : Addr
  d_are_groups : FuncData
  F_are_groups : Fun N.K "are_groups" "are_groups" sare_groups f_are_groups d_are_groups
  g_are_groups : mg "are_groups" = some (.ref f_are_groups)
  b_are_groups : Binds N.K d_are_groups ["many", "value"] []
  f__is_group : Addr
  d__is_group : FuncData
  F__is_group : Fun N.K "_is_group" "_is_group" s_is_group f__is_group d__is_group
  g__is_group : mg "_is_group" = some (.ref f__is_group)
  b__is_group : Binds N.K d__is_group ["signature", "value"] []
  f__are_rows : Addr
  d__are_rows : FuncData
  F__are_rows : Fun N.K "_are_rows" "_are_rows" s_are_rows f__are_rows d__are_rows
  g__are_rows : mg "_are_rows" = some (.ref f__are_rows)
  b__are_rows : Binds N.K d__are_rows ["many", "value"] []
  f__has_one_for_each_verb : Addr
  d__has_one_for_each_verb : FuncData
  F__has_one_for_each_verb : Fun N.K "_has_one_for_each_verb" "_has_one_for_each_verb" s_has_one_for_each_verb f__has_one_for_each_verb d__has_one_for_each_verb
  g__has_one_for_each_verb : mg "_has_one_for_each_verb" = some (.ref f__has_one_for_each_verb)
  b__has_one_for_each_verb : Binds N.K d__has_one_for_each_verb ["signature", "value"] []
  f_is_model : Addr
  d_is_model : FuncData
  F_is_model : Fun N.K "is_model" "is_model" sis_model f_is_model d_is_model
  g_is_model : mg "is_model" = some (.ref f_is_model)
  b_is_model : Binds N.K d_is_model ["signature", "value"] []
  f_check_model : Addr
  d_check_model : FuncData
  F_check_model : Fun N.K "check_model" "check_model" scheck_model f_check_model d_check_model
  g_check_model : mg "check_model" = some (.ref f_check_model)
  b_check_model : Binds N.K d_check_model ["signature", "model", "name"] []
  f_says_some : Addr
  d_says_some : FuncData
  F_says_some : Fun N.K "says_some" "says_some" ssays_some f_says_some d_says_some
  g_says_some : mg "says_some" = some (.ref f_says_some)
  b_says_some : Binds N.K d_says_some ["sentence"] []
  f_compares_sizes : Addr
  d_compares_sizes : FuncData
  F_compares_sizes : Fun N.K "compares_sizes" "compares_sizes" scompares_sizes f_compares_sizes d_compares_sizes
  g_compares_sizes : mg "compares_sizes" = some (.ref f_compares_sizes)
  b_compares_sizes : Binds N.K d_compares_sizes ["sentence"] []
  f__deeds : Addr
  d__deeds : FuncData
  F__deeds : Fun N.K "_deeds" "_deeds" s_deeds f__deeds d__deeds
  g__deeds : mg "_deeds" = some (.ref f__deeds)
  b__deeds : Binds N.K d__deeds ["model", "group", "v", "by", "y"] []
  f_is_as_said : Addr
  d_is_as_said : FuncData
  F_is_as_said : Fun N.K "is_as_said" "is_as_said" sis_as_said f_is_as_said d_is_as_said
  g_is_as_said : mg "is_as_said" = some (.ref f_is_as_said)
  b_is_as_said : Binds N.K d_is_as_said ["model", "sentence", "group"] []
  f_first_as_said : Addr
  d_first_as_said : FuncData
  F_first_as_said : Fun N.K "first_as_said" "first_as_said" sfirst_as_said f_first_as_said d_first_as_said
  g_first_as_said : mg "first_as_said" = some (.ref f_first_as_said)
  b_first_as_said : Binds N.K d_first_as_said ["model", "sentence"] []
  f_size_of_noun : Addr
  d_size_of_noun : FuncData
  F_size_of_noun : Fun N.K "size_of_noun" "size_of_noun" ssize_of_noun f_size_of_noun d_size_of_noun
  g_size_of_noun : mg "size_of_noun" = some (.ref f_size_of_noun)
  b_size_of_noun : Binds N.K d_size_of_noun ["model", "noun"] []
  f_holds_in : Addr
  d_holds_in : FuncData
  F_holds_in : Fun N.K "holds_in" "holds_in" sholds_in f_holds_in d_holds_in
  g_holds_in : mg "holds_in" = some (.ref f_holds_in)
  b_holds_in : Binds N.K d_holds_in ["model", "sentence"] []
  f__check_both : Addr
  d__check_both : FuncData
  F__check_both : Fun N.K "_check_both" "_check_both" s_check_both f__check_both d__check_both
  g__check_both : mg "_check_both" = some (.ref f__check_both)
  b__check_both : Binds N.K d__check_both ["signature", "first", "second"] []
  f__is_telling : Addr
  d__is_telling : FuncData
  F__is_telling : Fun N.K "_is_telling" "_is_telling" s_is_telling f__is_telling d__is_telling
  g__is_telling : mg "_is_telling" = some (.ref f__is_telling)
  b__is_telling : Binds N.K d__is_telling ["first", "second", "sentence"] []
  f__first_telling : Addr
  d__first_telling : FuncData
  F__first_telling : Fun N.K "_first_telling" "_first_telling" s_first_telling f__first_telling d__first_telling
  g__first_telling : mg "_first_telling" = some (.ref f__first_telling)
  b__first_telling : Binds N.K d__first_telling ["first", "second", "sentences"] []
  f_told_sentence : Addr
  d_told_sentence : FuncData
  F_told_sentence : Fun N.K "told_sentence" "told_sentence" stold_sentence f_told_sentence d_told_sentence
  g_told_sentence : mg "told_sentence" = some (.ref f_told_sentence)
  b_told_sentence : Binds N.K d_told_sentence ["signature", "first", "second"] []
  f_agree : Addr
  d_agree : FuncData
  F_agree : Fun N.K "agree" "agree" sagree f_agree d_agree
  g_agree : mg "agree" = some (.ref f_agree)
  b_agree : Binds N.K d_agree ["signature", "first", "second"] []
  f__moved : Addr
  d__moved : FuncData
  F__moved : Fun N.K "_moved" "_moved" s_moved f__moved d__moved
  g__moved : mg "_moved" = some (.ref f__moved)
  b__moved : Binds N.K d__moved ["row", "many"] []
  f_union : Addr
  d_union : FuncData
  F_union : Fun N.K "union" "union" sunion f_union d_union
  g_union : mg "union" = some (.ref f_union)
  b_union : Binds N.K d_union ["signature", "first", "second"] []
  f__law_stream : Addr
  d__law_stream : FuncData
  F__law_stream : Fun N.K "_law_stream" "_law_stream" s_law_stream f__law_stream d__law_stream
  g__law_stream : mg "_law_stream" = some (.ref f__law_stream)
  b__law_stream : Binds N.K d__law_stream ["script"] []
  f__law_next : Addr
  d__law_next : FuncData
  F__law_next : Fun N.K "_law_next" "_law_next" s_law_next f__law_next d__law_next
  g__law_next : mg "_law_next" = some (.ref f__law_next)
  b__law_next : Binds N.K d__law_next ["stream", "many"] []
  f__law_noun_words : Addr
  d__law_noun_words : FuncData
  F__law_noun_words : Fun N.K "_law_noun_words" "_law_noun_words" s_law_noun_words f__law_noun_words d__law_noun_words
  g__law_noun_words : mg "_law_noun_words" = some (.ref f__law_noun_words)
  b__law_noun_words : Binds N.K d__law_noun_words [] []
  f__law_every : Addr
  d__law_every : FuncData
  F__law_every : Fun N.K "_law_every" "_law_every" s_law_every f__law_every d__law_every
  g__law_every : mg "_law_every" = some (.ref f__law_every)
  b__law_every : Binds N.K d__law_every ["signature"] []
  f__law_signature : Addr
  d__law_signature : FuncData
  F__law_signature : Fun N.K "_law_signature" "_law_signature" s_law_signature f__law_signature d__law_signature
  g__law_signature : mg "_law_signature" = some (.ref f__law_signature)
  b__law_signature : Binds N.K d__law_signature ["stream"] []
  f__law_having : Addr
  d__law_having : FuncData
  F__law_having : Fun N.K "_law_having" "_law_having" s_law_having f__law_having d__law_having
  g__law_having : mg "_law_having" = some (.ref f__law_having)
  b__law_having : Binds N.K d__law_having ["model", "noun"] []
  f__law_size : Addr
  d__law_size : FuncData
  F__law_size : Fun N.K "_law_size" "_law_size" s_law_size f__law_size d__law_size
  g__law_size : mg "_law_size" = some (.ref f__law_size)
  b__law_size : Binds N.K d__law_size ["model", "noun"] []
  f__law_seen : Addr
  d__law_seen : FuncData
  F__law_seen : Fun N.K "_law_seen" "_law_seen" s_law_seen f__law_seen d__law_seen
  g__law_seen : mg "_law_seen" = some (.ref f__law_seen)
  b__law_seen : Binds N.K d__law_seen ["model", "group", "verb", "by", "noun"] []
  f__law_says : Addr
  d__law_says : FuncData
  F__law_says : Fun N.K "_law_says" "_law_says" s_law_says f__law_says d__law_says
  g__law_says : mg "_law_says" = some (.ref f__law_says)
  b__law_says : Binds N.K d__law_says ["model", "sentence", "group"] []
  f__law_holds : Addr
  d__law_holds : FuncData
  F__law_holds : Fun N.K "_law_holds" "_law_holds" s_law_holds f__law_holds d__law_holds
  g__law_holds : mg "_law_holds" = some (.ref f__law_holds)
  b__law_holds : Binds N.K d__law_holds ["model", "sentence"] []
  f__law_some : Addr
  d__law_some : FuncData
  F__law_some : Fun N.K "_law_some" "_law_some" s_law_some f__law_some d__law_some
  g__law_some : mg "_law_some" = some (.ref f__law_some)
  b__law_some : Binds N.K d__law_some ["stream", "many"] []
  f__law_model : Addr
  d__law_model : FuncData
  F__law_model : Fun N.K "_law_model" "_law_model" s_law_model f__law_model d__law_model
  g__law_model : mg "_law_model" = some (.ref f__law_model)
  b__law_model : Binds N.K d__law_model ["stream", "signature", "most"] []
  f__law_exchanged : Addr
  d__law_exchanged : FuncData
  F__law_exchanged : Fun N.K "_law_exchanged" "_law_exchanged" s_law_exchanged f__law_exchanged d__law_exchanged
  g__law_exchanged : mg "_law_exchanged" = some (.ref f__law_exchanged)
  b__law_exchanged : Binds N.K d__law_exchanged ["model", "order"] []
  f__law_parted : Addr
  d__law_parted : FuncData
  F__law_parted : Fun N.K "_law_parted" "_law_parted" s_law_parted f__law_parted d__law_parted
  g__law_parted : mg "_law_parted" = some (.ref f__law_parted)
  b__law_parted : Binds N.K d__law_parted ["model", "at"] []
  cc_is_ascending : Addr
  pp_is_ascending : Addr
  FC_is_ascending : GXX.FunC N.K "is_ascending" "is_ascending" sis_ascending f_is_ascending d_is_ascending cc_is_ascending
  m_is_ascending : pp_is_ascending ∈ N.G
  cc_are_groups : Addr
  pp_are_groups : Addr
  FC_are_groups : GXX.FunC N.K "are_groups" "are_groups" sare_groups f_are_groups d_are_groups cc_are_groups
  m_are_groups : pp_are_groups ∈ N.G
  cc__is_group : Addr
  pp__is_group : Addr
  FC__is_group : GXX.FunC N.K "_is_group" "_is_group" s_is_group f__is_group d__is_group cc__is_group
  m__is_group : pp__is_group ∈ N.G
  cc__are_rows : Addr
  pp__are_rows : Addr
  FC__are_rows : GXX.FunC N.K "_are_rows" "_are_rows" s_are_rows f__are_rows d__are_rows cc__are_rows
  m__are_rows : pp__are_rows ∈ N.G
  cc_is_model : Addr
  pp_is_model : Addr
  FC_is_model : GXX.FunC N.K "is_model" "is_model" sis_model f_is_model d_is_model cc_is_model
  m_is_model : pp_is_model ∈ N.G
  cc_is_as_said : Addr
  pp_is_as_said : Addr
  FC_is_as_said : GXX.FunC N.K "is_as_said" "is_as_said" sis_as_said f_is_as_said d_is_as_said cc_is_as_said
  m_is_as_said : pp_is_as_said ∈ N.G
  cc_size_of_noun : Addr
  pp_size_of_noun : Addr
  FC_size_of_noun : GXX.FunC N.K "size_of_noun" "size_of_noun" ssize_of_noun f_size_of_noun d_size_of_noun cc_size_of_noun
  m_size_of_noun : pp_size_of_noun ∈ N.G
  n_abs : mg "abs" = none
  n_all : mg "all" = none
  n_any : mg "any" = none
  n_bool : mg "bool" = none
  n_int : mg "int" = none
  n_isinstance : mg "isinstance" = none
  n_len : mg "len" = none
  n_list : mg "list" = none
  n_range : mg "range" = none
  n_reversed : mg "reversed" = none
  n_sorted : mg "sorted" = none
  n_sum : mg "sum" = none
  n_tuple : mg "tuple" = none
  n_zip : mg "zip" = none
  k_MOST_NOUNS : Tok
  c_MOST_NOUNS : mg "MOST_NOUNS" = some (.int 4 k_MOST_NOUNS)
  k_MOST_VERBS : Tok
  c_MOST_VERBS : mg "MOST_VERBS" = some (.int 2 k_MOST_VERBS)
  k_MOST_GROUPS : Tok
  c_MOST_GROUPS : mg "MOST_GROUPS" = some (.int 40 k_MOST_GROUPS)
  k_MOST_OF_A_GROUP : Tok
  c_MOST_OF_A_GROUP : mg "MOST_OF_A_GROUP" = some (.int 1000 k_MOST_OF_A_GROUP)
  a_QUANTIFIERS : Addr
  c_QUANTIFIERS : mg "QUANTIFIERS" = some (.ref a_QUANTIFIERS)
  t_QUANTIFIERS : ∀ M H, R N.K M H (.ref a_QUANTIFIERS) (.tup [.str 0, .str 1])
  a_WORDS : Addr
  c_WORDS : mg "WORDS" = some (.ref a_WORDS)
  t_WORDS : ∀ M H, R N.K M H (.ref a_WORDS) (.tup [.str 0, .str 2, .str 3, .str 1, .str 4, .str 5, .str 6, .str 7])
  a_TRUE_FIRST : Addr
  c_TRUE_FIRST : mg "TRUE_FIRST" = some (.ref a_TRUE_FIRST)
  t_TRUE_FIRST : ∀ M H, R N.K M H (.ref a_TRUE_FIRST) (.tup [.bl true, .bl false])
  f_QUANTIFIERS : ∀ M H, R N.K M H (.ref a_QUANTIFIERS) (.ft [.str 0, .str 1])
  f_TRUE_FIRST : ∀ M H, R N.K M H (.ref a_TRUE_FIRST) (.ft [.bl true, .bl false])
  a_OTHER_QUANTIFIER : Addr
  c_OTHER_QUANTIFIER : mg "OTHER_QUANTIFIER" = some (.ref a_OTHER_QUANTIFIER)
  d_OTHER_QUANTIFIER : KDP N w a_OTHER_QUANTIFIER [(0, .str 1), (1, .str 0)]
  a_OPPOSITES : Addr
  c_OPPOSITES : mg "OPPOSITES" = some (.ref a_OPPOSITES)
  d_OPPOSITES : KDP N w a_OPPOSITES [(0, .str 2), (2, .str 0), (3, .str 1), (1, .str 3), (4, .str 5), (5, .str 4)]
structure Tabs (N : En) {w : World} {mg : Str → Option Value} (T : Txt N w mg) (base : Heap) : Prop where
  b_is_ascending : TabB base mg T.cc_is_ascending T.pp_is_ascending
  b_are_groups : TabB base mg T.cc_are_groups T.pp_are_groups
  b__is_group : TabB base mg T.cc__is_group T.pp__is_group
  b__are_rows : TabB base mg T.cc__are_rows T.pp__are_rows
  b_is_model : TabB base mg T.cc_is_model T.pp_is_model
  b_is_as_said : TabB base mg T.cc_is_as_said T.pp_is_as_said
  b_size_of_noun : TabB base mg T.cc_size_of_noun T.pp_size_of_noun
def B_is_integer : Ss :=
  sRet (eAnd (eIsi .int (eV 0)) (eAnd (eNot (eIsi .bool (eV 0))) (eChain leD leD (eV 1) (eV 0) (eVB 2))))
def F_is_integer : Fn := fnS0 3 B_is_integer
def B_is_noun : Ss :=
  sRet (eCall (F_is_integer) (aCons (eV 1) (aCons (eC (.int 0)) (aCons (eOp subD (eOp ixD (eV 0) (eC (.int 0))) (eC (.int 1))) (aNil)))))
def F_is_noun : Fn := fnS0 2 B_is_noun
def B_is_signature : Ss :=
  sCons (sIf (tO (tN (tU (eIsi .tuple (eV 0)))) (tV (eOp neOp (eC1 lenD (eVB 0)) (eC (.int 2))))) (sRet (eC (.bl false))) (sNil))
  (sRet (eAnd (eCall (F_is_integer) (aCons (eOp ixD (eV 0) (eC (.int 0))) (aCons (eC (.int 1)) (aCons (eC (.int 4)) (aNil))))) (eCall (F_is_integer) (aCons (eOp ixD (eV 0) (eC (.int 1))) (aCons (eC (.int 0)) (aCons (eC (.int 2)) (aNil)))))))
def F_is_signature : Fn := fnS0 1 B_is_signature
def B_check_signature : Ss :=
  sIf (tN (tU (eCall (F_is_signature) (aCons (eV 0) (aNil))))) (sNever) (sNil)
def F_check_signature : Fn := fnS0 1 B_check_signature
def B_negated : Ss :=
  sCons (sIf (tV (eOp eqOp (eOp ixD (eV 0) (eC (.int 0))) (eC (.str 6)))) (sCons (sAsg (gT 8 (gCons (gN 1) (gCons (gN 2) (gCons (gN 3) (gCons (gN 4) (gCons (gN 5) (gCons (gN 6) (gCons (gN 7) (gCons (gN 8) (gNil)))))))))) (eV 0))
  (sRet (eTup (aCons (eC (.str 6)) (aCons (eKD [(0, .str 1), (1, .str 0)] (eV 2)) (aCons (eV 3) (aCons (eNot (eV 4)) (aCons (eV 5) (aCons (eV 6) (aCons (eKD [(0, .str 1), (1, .str 0)] (eV 7)) (aCons (eV 8) (aNil)))))))))))) (sNil))
  (sCons (sIf (tV (eOp eqOp (eOp ixD (eV 0) (eC (.int 0))) (eC (.str 7)))) (sCons (sAsg (gT 5 (gCons (gN 1) (gCons (gN 2) (gCons (gN 3) (gCons (gN 4) (gCons (gN 5) (gNil))))))) (eV 0))
  (sRet (eTup (aCons (eC (.str 7)) (aCons (eKD [(0, .str 1), (1, .str 0)] (eV 2)) (aCons (eV 3) (aCons (eNot (eV 4)) (aCons (eV 5) (aNil))))))))) (sNil))
  (sCons (sAsg (gT 3 (gCons (gN 9) (gCons (gN 3) (gCons (gN 8) (gNil))))) (eV 0))
  (sRet (eTup (aCons (eKD [(0, .str 2), (2, .str 0), (3, .str 1), (1, .str 3), (4, .str 5), (5, .str 4)] (eV 9)) (aCons (eV 3) (aCons (eV 8) (aNil))))))))
def F_negated : Fn := fnS0 10 B_negated
def B__choices : Ss :=
  sCons (sSet 2 (eFr (eOp ixD (eV 0) (eC (.int 0)))))
  (sCons (sSet 3 (eFr (eOp ixD (eV 0) (eC (.int 1)))))
  (sCons (sIf (tV (eOp eqOp (eV 1) (eC (.str 6)))) (sRet (eTup (aCons (eC (.ft [.str 0, .str 1])) (aCons (eV 2) (aCons (eC (.ft [.bl true, .bl false])) (aCons (eV 3) (aCons (eC (.ft [.bl true, .bl false])) (aCons (eC (.ft [.str 0, .str 1])) (aCons (eV 2) (aNil)))))))))) (sNil))
  (sCons (sIf (tV (eOp eqOp (eV 1) (eC (.str 7)))) (sRet (eTup (aCons (eC (.ft [.str 0, .str 1])) (aCons (eV 2) (aCons (eC (.ft [.bl true, .bl false])) (aCons (eV 3) (aNil))))))) (sNil))
  (sRet (eTup (aCons (eV 2) (aCons (eV 2) (aNil))))))))
def F__choices : Fn := fnS0 4 B__choices
def B__count_with_word : Ss :=
  sCons (sSet 2 (eC (.int 1)))
  (sCons (sFor (iSeq (eCall (F__choices) (aCons (eV 0) (aCons (eV 1) (aNil))))) (gN 3) (sAug mulI 2 (eC1 lenD (eW (eV 3)))))
  (sRet (eV 2)))
def F__count_with_word : Fn := fnS0 4 B__count_with_word
def B__sentence_with_word : Ss :=
  sCons (sOwn 3 (aNil))
  (sCons (sSet 4 (eV 2))
  (sCons (sFor (iRevT (eCall (F__choices) (aCons (eV 0) (aCons (eV 1) (aNil))))) (gN 5) (sCons (sApp 3 (eOp ixD (eW (eV 5)) (eOp modD (eV 4) (eC1 lenD (eW (eV 5))))))
  (sAug fdivD 4 (eC1 lenD (eW (eV 5))))))
  (sRet (eOp addD (eTup (aCons (eV 1) (aNil))) (eC1 tupD (eF (aC1 revLD (eVB 3))))))))
def F__sentence_with_word : Fn := fnS0 6 B__sentence_with_word
def B_sentences_in_order : Ss :=
  sCons (sOwn 1 (aNil))
  (sCons (sFor (iSeq (eC (.tup [.str 0, .str 2, .str 3, .str 1, .str 4, .str 5, .str 6, .str 7]))) (gN 2) (sCons (sSet 3 (eCall (F__count_with_word) (aCons (eV 0) (aCons (eV 2) (aNil)))))
  (sExt 1 (eF (aLc [4] (iRn1 (aCons (eV 3) (aNil))) (gN 4) (tYes) (eCall (F__sentence_with_word) (aCons (eV 0) (aCons (eV 2) (aCons (eV 4) (aNil))))))))))
  (sRet (eV 1)))
def F_sentences_in_order : Fn := fnS0 5 B_sentences_in_order
def B_is_ascending : Ss :=
  sRet (eGen false [1] (iRn1 (aCons (eOp subD (eC1 lenD (eVB 0)) (eC (.int 1))) (aNil))) (gN 1) (eOp ltD (eOp ixD (eV 0) (eV 1)) (eOp ixD (eV 0) (eOp addD (eV 1) (eC (.int 1))))))
def F_is_ascending : Fn := fnS0 2 B_is_ascending
def B_are_groups : Ss :=
  sCons (sIf (tO (tN (tU (eIsi .tuple (eV 1)))) (tN (tU (eGen false [2] (iSeq (eV 1)) (gN 2) (eCall (F_is_integer) (aCons (eV 2) (aCons (eC (.int 0)) (aCons (eOp subD (eV 0) (eC (.int 1))) (aNil))))))))) (sRet (eC (.bl false))) (sNil))
  (sRet (eCall (F_is_ascending) (aCons (eV 1) (aNil))))
def F_are_groups : Fn := fnS0 3 B_are_groups
def B__is_group : Ss :=
  sCons (sIf (tO (tN (tU (eIsi .tuple (eV 1)))) (tV (eOp neOp (eC1 lenD (eVB 1)) (eC (.int 2))))) (sRet (eC (.bl false))) (sNil))
  (sCons (sAsg (gT 2 (gCons (gN 2) (gCons (gN 3) (gNil)))) (eV 1))
  (sCons (sIf (tO (tN (tU (eCall (F_is_integer) (aCons (eV 2) (aCons (eC (.int 1)) (aCons (eC (.int 1000)) (aNil))))))) (tN (tU (eIsi .tuple (eV 3))))) (sRet (eC (.bl false))) (sNil))
  (sRet (eAnd (eGen false [4] (iSeq (eV 3)) (gN 4) (eCall (F_is_noun) (aCons (eV 0) (aCons (eV 4) (aNil))))) (eCall (F_is_ascending) (aCons (eV 3) (aNil)))))))
def F__is_group : Fn := fnS0 5 B__is_group
def B__are_rows : Ss :=
  sCons (sIf (tO (tN (tU (eIsi .tuple (eV 1)))) (tV (eOp neOp (eC1 lenD (eVB 1)) (eVB 0)))) (sRet (eC (.bl false))) (sNil))
  (sRet (eGen false [2] (iSeq (eV 1)) (gN 2) (eCall (F_are_groups) (aCons (eV 0) (aCons (eV 2) (aNil))))))
def F__are_rows : Fn := fnS0 3 B__are_rows
def B__has_one_for_each_verb : Ss :=
  sRet (eAnd (eIsi .tuple (eV 1)) (eOp eqOp (eC1 lenD (eVB 1)) (eOp ixD (eV 0) (eC (.int 1)))))
def F__has_one_for_each_verb : Fn := fnS0 2 B__has_one_for_each_verb
def B_is_model : Ss :=
  sCons (sIf (tO (tN (tU (eIsi .tuple (eV 1)))) (tV (eOp neOp (eC1 lenD (eVB 1)) (eC (.int 3))))) (sRet (eC (.bl false))) (sNil))
  (sCons (sAsg (gT 3 (gCons (gN 2) (gCons (gN 3) (gCons (gN 4) (gNil))))) (eV 1))
  (sCons (sIf (tO (tN (tU (eIsi .tuple (eV 2)))) (tV (eOp gtD (eC1 lenD (eVB 2)) (eC (.int 40))))) (sRet (eC (.bl false))) (sNil))
  (sCons (sIf (tN (tU (eGen false [6] (iSeq (eV 2)) (gN 6) (eCall (F__is_group) (aCons (eV 0) (aCons (eV 6) (aNil))))))) (sRet (eC (.bl false))) (sNil))
  (sCons (sIf (tO (tN (tU (eCall (F__has_one_for_each_verb) (aCons (eV 0) (aCons (eV 3) (aNil)))))) (tN (tU (eCall (F__has_one_for_each_verb) (aCons (eV 0) (aCons (eV 4) (aNil))))))) (sRet (eC (.bl false))) (sNil))
  (sCons (sSet 5 (eC1 lenD (eVB 2)))
  (sRet (eAnd (eGen false [7] (iSeq (eV 3)) (gN 7) (eCall (F__are_rows) (aCons (eV 5) (aCons (eV 7) (aNil))))) (eGen false [8] (iSeq (eV 4)) (gN 8) (eCall (F_are_groups) (aCons (eV 5) (aCons (eV 8) (aNil))))))))))))
def F_is_model : Fn := fnS0 9 B_is_model
def B_check_model : Ss :=
  sIf (tN (tU (eCall (F_is_model) (aCons (eV 0) (aCons (eV 1) (aNil)))))) (sNever) (sNil)
def F_check_model : Fn := fnS0 3 B_check_model
def B_says_some : Ss :=
  sRet (eOr (eOp inOp (eOp ixD (eV 0) (eC (.int 0))) (eTup (aCons (eC (.str 1)) (aCons (eC (.str 2)) (aNil))))) (eOp eqOp (eOp ixD (eV 0) (eC (.int 1))) (eC (.str 1))))
def F_says_some : Fn := fnS0 1 B_says_some
def B_compares_sizes : Ss :=
  sRet (eOp inOp (eOp ixD (eV 0) (eC (.int 0))) (eTup (aCons (eC (.str 4)) (aCons (eC (.str 5)) (aNil)))))
def F_compares_sizes : Fn := fnS0 1 B_compares_sizes
def B__deeds : Ss :=
  sCons (sAsg (gT 3 (gCons (gN 5) (gCons (gN 6) (gCons (gN 7) (gNil))))) (eV 0))
  (sCons (sOwn 8 (aNil))
  (sCons (sFor (iRn1 (aCons (eC1 lenD (eVB 5)) (aNil))) (gN 9) (sCons (sAsg (gT 2 (gCons (gN 10) (gCons (gN 11) (gNil)))) (eOp ixD (eV 5) (eV 9)))
  (sIf (tV (eOp inOp (eV 4) (eVB 11))) (sCons (sIf (tO (tV (eOp neOp (eV 9) (eVB 1))) (tV (eOp gtD (eV 10) (eC (.int 1))))) (sApp 8 (eIf (tU (eVB 3)) (eOp inOp (eV 1) (eOp ixD (eOp ixD (eV 6) (eV 2)) (eV 9))) (eOp inOp (eV 9) (eOp ixD (eOp ixD (eV 6) (eV 2)) (eV 1))))) (sNil))
  (sIf (tV (eOp eqOp (eV 9) (eVB 1))) (sApp 8 (eOp inOp (eV 1) (eOp ixD (eV 7) (eV 2)))) (sNil))) (sNil))))
  (sRet (eV 8))))
def F__deeds : Fn := fnS0 12 B__deeds
def B_is_as_said : Ss :=
  sCons (sAsg (gT 3 (gCons (gN 3) (gCons (gN 4) (gCons (gN 5) (gNil))))) (eV 0))
  (sCons (sSet 6 (eOp ixD (eOp ixD (eV 3) (eV 2)) (eC (.int 1))))
  (sCons (sIf (tV (eOp eqOp (eOp ixD (eV 1) (eC (.int 0))) (eC (.str 6)))) (sCons (sAsg (gT 8 (gCons (gN 4) (gCons (gN 4) (gCons (gN 7) (gCons (gN 14) (gCons (gN 8) (gCons (gN 9) (gCons (gN 10) (gCons (gN 11) (gNil)))))))))) (eV 1))
  (sCons (sIf (tV (eOp notInOp (eV 7) (eVB 6))) (sRet (eC (.bl false))) (sNil))
  (sCons (sSet 12 (eCall (F__deeds) (aCons (eV 0) (aCons (eV 2) (aCons (eV 8) (aCons (eV 9) (aCons (eV 11) (aNil))))))))
  (sCons (sIf (tV (eOp eqOp (eV 10) (eC (.str 1)))) (sRet (eOp inOp (eV 14) (eVB 12))) (sNil))
  (sRet (eGen false [15] (iSeq (eV 12)) (gN 15) (eOp eqOp (eV 15) (eVB 14)))))))) (sNil))
  (sCons (sIf (tV (eOp eqOp (eOp ixD (eV 1) (eC (.int 0))) (eC (.str 7)))) (sCons (sAsg (gT 5 (gCons (gN 4) (gCons (gN 4) (gCons (gN 7) (gCons (gN 14) (gCons (gN 8) (gNil))))))) (eV 1))
  (sRet (eAnd (eOp inOp (eV 7) (eVB 6)) (eOp eqOp (eOp inOp (eV 2) (eOp ixD (eV 5) (eV 8))) (eVB 14))))) (sNil))
  (sCons (sAsg (gT 3 (gCons (gN 13) (gCons (gN 7) (gCons (gN 11) (gNil))))) (eV 1))
  (sRet (eAnd (eOp inOp (eV 7) (eVB 6)) (eOp eqOp (eOp inOp (eV 11) (eVB 6)) (eOp eqOp (eV 13) (eC (.str 1))))))))))
def F_is_as_said : Fn := fnS0 16 B_is_as_said
def B_first_as_said : Ss :=
  sCons (sFor (iRn1 (aCons (eC1 lenD (eOp ixD (eV 0) (eC (.int 0)))) (aNil))) (gN 2) (sIf (tU (eCall (F_is_as_said) (aCons (eV 0) (aCons (eV 1) (aCons (eV 2) (aNil)))))) (sRet (eV 2)) (sNil)))
  (sRet (eC .non))
def F_first_as_said : Fn := fnS0 3 B_first_as_said
def B_size_of_noun : Ss :=
  sRet (eSum [2, 3] (iSeq (eOp ixD (eV 0) (eC (.int 0)))) (gT 2 (gCons (gN 2) (gCons (gN 3) (gNil)))) (tV (eOp inOp (eV 1) (eVB 3))) (eV 2))
def F_size_of_noun : Fn := fnS0 4 B_size_of_noun
def B_holds_in : Ss :=
  sCons (sIf (tU (eCall (F_compares_sizes) (aCons (eV 1) (aNil)))) (sCons (sAsg (gT 3 (gCons (gN 2) (gCons (gN 3) (gCons (gN 4) (gNil))))) (eV 1))
  (sRet (eOp eqOp (eOp geD (eCall (F_size_of_noun) (aCons (eV 0) (aCons (eV 3) (aNil)))) (eCall (F_size_of_noun) (aCons (eV 0) (aCons (eV 4) (aNil))))) (eOp eqOp (eV 2) (eC (.str 4)))))) (sNil))
  (sCons (sIf (tU (eCall (F_says_some) (aCons (eV 1) (aNil)))) (sRet (eOp notNOp (eCall (F_first_as_said) (aCons (eV 0) (aCons (eV 1) (aNil)))) (eC .non))) (sNil))
  (sRet (eOp isNOp (eCall (F_first_as_said) (aCons (eV 0) (aCons (eCall (F_negated) (aCons (eV 1) (aNil))) (aNil)))) (eC .non))))
def F_holds_in : Fn := fnS0 5 B_holds_in
def B__check_both : Ss :=
  sCons (sEx (eCall (F_check_signature) (aCons (eV 0) (aNil))))
  (sCons (sEx (eCall (F_check_model) (aCons (eV 0) (aCons (eV 1) (aCons (eC (.str 19)) (aNil))))))
  (sEx (eCall (F_check_model) (aCons (eV 0) (aCons (eV 2) (aCons (eC (.str 20)) (aNil)))))))
def F__check_both : Fn := fnS0 3 B__check_both
def B__is_telling : Ss :=
  sRet (eOp neOp (eCall (F_holds_in) (aCons (eV 0) (aCons (eV 2) (aNil)))) (eCall (F_holds_in) (aCons (eV 1) (aCons (eV 2) (aNil)))))
def F__is_telling : Fn := fnS0 3 B__is_telling
def B__first_telling : Ss :=
  sCons (sFor (iSeq (eV 2)) (gN 3) (sIf (tU (eCall (F__is_telling) (aCons (eV 0) (aCons (eV 1) (aCons (eV 3) (aNil)))))) (sRet (eV 3)) (sNil)))
  (sRet (eC .non))
def F__first_telling : Fn := fnS0 4 B__first_telling
def B_told_sentence : Ss :=
  sCons (sEx (eCall (F__check_both) (aCons (eV 0) (aCons (eV 1) (aCons (eV 2) (aNil))))))
  (sRet (eCall (F__first_telling) (aCons (eV 1) (aCons (eV 2) (aCons (eCall (F_sentences_in_order) (aCons (eV 0) (aNil))) (aNil))))))
def F_told_sentence : Fn := fnS0 3 B_told_sentence
def B_agree : Ss :=
  sCons (sEx (eCall (F__check_both) (aCons (eV 0) (aCons (eV 1) (aCons (eV 2) (aNil))))))
  (sRet (eOp isNOp (eCall (F__first_telling) (aCons (eV 1) (aCons (eV 2) (aCons (eCall (F_sentences_in_order) (aCons (eV 0) (aNil))) (aNil))))) (eC .non)))
def F_agree : Fn := fnS0 3 B_agree
def B__moved : Ss :=
  sRet (eC1 tupD (eF (aLc [2] (iSeq (eV 0)) (gN 2) (tYes) (eOp addD (eV 2) (eVB 1)))))
def F__moved : Fn := fnS0 3 B__moved
def B_union : Ss :=
  sCons (sEx (eCall (F__check_both) (aCons (eV 0) (aCons (eV 1) (aCons (eV 2) (aNil))))))
  (sCons (sSet 3 (eC1 lenD (eOp ixD (eV 1) (eC (.int 0)))))
  (sCons (sIf (tV (eOp gtD (eOp addD (eV 3) (eC1 lenD (eOp ixD (eV 2) (eC (.int 0))))) (eC (.int 40)))) (sNever) (sNil))
  (sCons (sOwn 4 (aNil))
  (sCons (sFor (iZipT (aCons (eOp ixD (eV 1) (eC (.int 1))) (aCons (eOp ixD (eV 2) (eC (.int 1))) (aNil)))) (gT 2 (gCons (gN 5) (gCons (gN 6) (gNil)))) (sApp 4 (eOp addD (eV 5) (eC1 tupD (eF (aLc [8] (iSeq (eV 6)) (gN 8) (tYes) (eCall (F__moved) (aCons (eV 8) (aCons (eV 3) (aNil))))))))))
  (sCons (sSet 7 (eF (aLc [8, 9] (iZipT (aCons (eOp ixD (eV 1) (eC (.int 2))) (aCons (eOp ixD (eV 2) (eC (.int 2))) (aNil)))) (gT 2 (gCons (gN 8) (gCons (gN 9) (gNil)))) (tYes) (eOp addD (eV 8) (eCall (F__moved) (aCons (eV 9) (aCons (eV 3) (aNil))))))))
  (sRet (eTup (aCons (eOp addD (eOp ixD (eV 1) (eC (.int 0))) (eOp ixD (eV 2) (eC (.int 0)))) (aCons (eC1 tupD (eVB 4)) (aCons (eC1 tupD (eVB 7)) (aNil)))))))))))
def F_union : Fn := fnS0 10 B_union
def B__law_stream : Ss :=
  sRet (eNew (aCons (eF (aC1 listD (eVB 0))) (aCons (eC (.int 0)) (aCons (eC (.int 0)) (aNil)))))
def F__law_stream : Fn := fnS0 1 B__law_stream
def B__law_next : Ss :=
  sCons (sIf (tV (eOp eqOp (eIxC (eV 0) (eC (.int 1))) (eC (.int 0)))) (sCons (sSet 2 (eIxC (eV 0) (eC (.int 2))))
  (sCons (sSet 3 (eOp addD (eC (.int 7)) (eVB 2)))
  (sCons (sIf (tV (eOp ltD (eV 2) (eC1 lenD (eIxC (eV 0) (eC (.int 0)))))) (sSet 3 (eC1 absD (eOp ixD (eIxC (eV 0) (eC (.int 0))) (eV 2)))) (sNil))
  (sCons (sIf (tV (eOp ltD (eV 3) (eOp powD (eC (.int 10)) (eC (.int 18))))) (sCons (sSet 3 (eOp modD (eC1 intD (eOp addD (eOp addD (eOp mulD (eV 3) (eC (.int 48271))) (eOp mulD (eV 2) (eC (.int 69621)))) (eC (.int 11)))) (eC (.int 2147483647))))
  (sSet 3 (eOp addD (eOp mulD (eOp modD (eC1 intD (eOp addD (eOp mulD (eV 3) (eC (.int 16807))) (eC (.int 13)))) (eC (.int 2147483647))) (eC (.int 65537))) (eVB 3)))) (sNil))
  (sCons (sSetC (eV 0) (eC (.int 1)) (eV 3))
  (sSetC (eV 0) (eC (.int 2)) (eOp addD (eV 2) (eC (.int 1))))))))) (sNil))
  (sCons (sSet 4 (eOp modD (eC1 intD (eIxC (eV 0) (eC (.int 1)))) (eVB 1)))
  (sCons (sSetC (eV 0) (eC (.int 1)) (eOp fdivD (eIxC (eV 0) (eC (.int 1))) (eVB 1)))
  (sRet (eV 4))))
def F__law_next : Fn := fnS0 5 B__law_next
def B__law_noun_words : Ss :=
  sRet (eF (aCons (eC (.str 0)) (aCons (eC (.str 2)) (aCons (eC (.str 3)) (aCons (eC (.str 1)) (aCons (eC (.str 4)) (aCons (eC (.str 5)) (aNil))))))))
def F__law_noun_words : Fn := fnS0 0 B__law_noun_words
def B__law_every : Ss :=
  sCons (sSet 1 (eF (aLr (eOp ixD (eV 0) (eC (.int 0))))))
  (sCons (sSet 2 (eF (aNil)))
  (sCons (sFor (iSeq (eCall0 (F__law_noun_words))) (gN 3) (sFor (iSeq (eV 1)) (gN 4) (sSet 2 (eOp addD (eV 2) (eF (aLc [9] (iSeq (eV 1)) (gN 9) (tYes) (eTup (aCons (eV 3) (aCons (eV 4) (aCons (eV 9) (aNil)))))))))))
  (sCons (sSet 5 (eF (aCons (eTup (aCons (eC (.str 6)) (aNil))) (aNil))))
  (sCons (sFor (iSeq (eF (aCons (eF (aCons (eC (.str 0)) (aCons (eC (.str 1)) (aNil)))) (aCons (eV 1) (aCons (eF (aCons (eC (.bl true)) (aCons (eC (.bl false)) (aNil)))) (aCons (eF (aLr (eOp ixD (eV 0) (eC (.int 1))))) (aCons (eF (aCons (eC (.bl true)) (aCons (eC (.bl false)) (aNil)))) (aCons (eF (aCons (eC (.str 0)) (aCons (eC (.str 1)) (aNil)))) (aCons (eV 1) (aNil)))))))))) (gN 6) (sCons (sSet 7 (eF (aNil)))
  (sCons (sFor (iSeq (eV 5)) (gN 8) (sSet 7 (eOp addD (eV 7) (eF (aLc [10] (iSeq (eV 6)) (gN 10) (tYes) (eOp addD (eV 8) (eTup (aCons (eV 10) (aNil)))))))))
  (sSet 5 (eV 7)))))
  (sCons (sSet 2 (eOp addD (eV 2) (eVB 5)))
  (sCons (sSet 5 (eF (aCons (eTup (aCons (eC (.str 7)) (aNil))) (aNil))))
  (sCons (sFor (iSeq (eF (aCons (eF (aCons (eC (.str 0)) (aCons (eC (.str 1)) (aNil)))) (aCons (eV 1) (aCons (eF (aCons (eC (.bl true)) (aCons (eC (.bl false)) (aNil)))) (aCons (eF (aLr (eOp ixD (eV 0) (eC (.int 1))))) (aNil))))))) (gN 6) (sCons (sSet 7 (eF (aNil)))
  (sCons (sFor (iSeq (eV 5)) (gN 8) (sSet 7 (eOp addD (eV 7) (eF (aLc [10] (iSeq (eV 6)) (gN 10) (tYes) (eOp addD (eV 8) (eTup (aCons (eV 10) (aNil)))))))))
  (sSet 5 (eV 7)))))
  (sRet (eOp addD (eV 2) (eVB 5))))))))))
def F__law_every : Fn := fnS0 11 B__law_every
def B__law_signature : Ss :=
  sRet (eOp ixD (eF (aCons (eTup (aCons (eC (.int 2)) (aCons (eC (.int 1)) (aNil)))) (aCons (eTup (aCons (eC (.int 2)) (aCons (eC (.int 1)) (aNil)))) (aCons (eTup (aCons (eC (.int 3)) (aCons (eC (.int 0)) (aNil)))) (aCons (eTup (aCons (eC (.int 2)) (aCons (eC (.int 2)) (aNil)))) (aCons (eTup (aCons (eC (.int 3)) (aCons (eC (.int 1)) (aNil)))) (aCons (eTup (aCons (eC (.int 1)) (aCons (eC (.int 1)) (aNil)))) (aNil)))))))) (eCall (F__law_next) (aCons (eV 0) (aCons (eC (.int 6)) (aNil)))))
def F__law_signature : Fn := fnS0 1 B__law_signature
def B__law_having : Ss :=
  sRet (eF (aLc [2] (iRn1 (aCons (eC1 lenD (eOp ixD (eV 0) (eC (.int 0)))) (aNil))) (gN 2) (tV (eOp inOp (eV 1) (eOp ixD (eOp ixD (eOp ixD (eV 0) (eC (.int 0))) (eV 2)) (eC (.int 1))))) (eV 2)))
def F__law_having : Fn := fnS0 3 B__law_having
def B__law_size : Ss :=
  sRet (eC1 sumD (eF (aLc [2] (iSeq (eCall (F__law_having) (aCons (eV 0) (aCons (eV 1) (aNil))))) (gN 2) (tYes) (eOp ixD (eOp ixD (eOp ixD (eV 0) (eC (.int 0))) (eV 2)) (eC (.int 0))))))
def F__law_size : Fn := fnS0 3 B__law_size
def B__law_seen : Ss :=
  sCons (sOwn 5 (aNil))
  (sCons (sFor (iSeq (eCall (F__law_having) (aCons (eV 0) (aCons (eV 4) (aNil))))) (gN 6) (sCons (sIf (tV (eOp eqOp (eV 6) (eVB 1))) (sApp 5 (eOp inOp (eV 1) (eOp ixD (eOp ixD (eV 0) (eC (.int 2))) (eV 2)))) (sNil))
  (sIf (tO (tV (eOp neOp (eV 6) (eVB 1))) (tV (eOp gtD (eOp ixD (eOp ixD (eOp ixD (eV 0) (eC (.int 0))) (eV 1)) (eC (.int 0))) (eC (.int 1))))) (sCons (sSet 7 (eTup (aCons (eV 1) (aCons (eV 6) (aNil)))))
  (sCons (sIf (tU (eVB 3)) (sSet 7 (eTup (aCons (eV 6) (aCons (eV 1) (aNil))))) (sNil))
  (sApp 5 (eOp inOp (eOp ixD (eV 7) (eC (.int 1))) (eOp ixD (eOp ixD (eOp ixD (eV 0) (eC (.int 1))) (eV 2)) (eOp ixD (eV 7) (eC (.int 0)))))))) (sNil))))
  (sRet (eV 5)))
def F__law_seen : Fn := fnS0 8 B__law_seen
def B__law_says : Ss :=
  sCons (sIf (tV (eOp eqOp (eOp ixD (eV 1) (eC (.int 0))) (eC (.str 7)))) (sRet (eOp eqOp (eOp inOp (eV 2) (eOp ixD (eOp ixD (eV 0) (eC (.int 2))) (eOp ixD (eV 1) (eC (.int 4))))) (eOp ixD (eV 1) (eC (.int 3))))) (sNil))
  (sCons (sSet 3 (eF (aLc [4] (iSeq (eCall (F__law_seen) (aCons (eV 0) (aCons (eV 2) (aCons (eOp ixD (eV 1) (eC (.int 4))) (aCons (eOp ixD (eV 1) (eC (.int 5))) (aCons (eOp ixD (eV 1) (eC (.int 7))) (aNil)))))))) (gN 4) (tYes) (eOp eqOp (eV 4) (eOp ixD (eV 1) (eC (.int 3)))))))
  (sCons (sIf (tV (eOp eqOp (eOp ixD (eV 1) (eC (.int 6))) (eC (.str 0)))) (sRet (eC1 allD (eVB 3))) (sNil))
  (sRet (eC1 anyD (eVB 3)))))
def F__law_says : Fn := fnS0 5 B__law_says
def B__law_holds : Ss :=
  sCons (sSet 2 (eOp ixD (eV 1) (eC (.int 0))))
  (sCons (sIf (tV (eOp eqOp (eV 2) (eC (.str 4)))) (sRet (eOp geD (eCall (F__law_size) (aCons (eV 0) (aCons (eOp ixD (eV 1) (eC (.int 1))) (aNil)))) (eCall (F__law_size) (aCons (eV 0) (aCons (eOp ixD (eV 1) (eC (.int 2))) (aNil)))))) (sNil))
  (sCons (sIf (tV (eOp eqOp (eV 2) (eC (.str 5)))) (sRet (eOp ltD (eCall (F__law_size) (aCons (eV 0) (aCons (eOp ixD (eV 1) (eC (.int 1))) (aNil)))) (eCall (F__law_size) (aCons (eV 0) (aCons (eOp ixD (eV 1) (eC (.int 2))) (aNil)))))) (sNil))
  (sCons (sIf (tV (eOp inOp (eV 2) (eF (aCons (eC (.str 6)) (aCons (eC (.str 7)) (aNil)))))) (sCons (sSet 3 (eF (aLc [4] (iSeq (eCall (F__law_having) (aCons (eV 0) (aCons (eOp ixD (eV 1) (eC (.int 2))) (aNil))))) (gN 4) (tYes) (eCall (F__law_says) (aCons (eV 0) (aCons (eV 1) (aCons (eV 4) (aNil))))))))
  (sCons (sIf (tV (eOp eqOp (eOp ixD (eV 1) (eC (.int 1))) (eC (.str 0)))) (sRet (eC1 allD (eVB 3))) (sNil))
  (sRet (eC1 anyD (eVB 3))))) (sNil))
  (sCons (sSet 3 (eF (aLc [4] (iSeq (eCall (F__law_having) (aCons (eV 0) (aCons (eOp ixD (eV 1) (eC (.int 1))) (aNil))))) (gN 4) (tYes) (eOp inOp (eOp ixD (eV 1) (eC (.int 2))) (eOp ixD (eOp ixD (eOp ixD (eV 0) (eC (.int 0))) (eV 4)) (eC (.int 1)))))))
  (sRet (eOp ixD (eF (aCons (eC1 allD (eVB 3)) (aCons (eNot (eC1 allD (eVB 3))) (aCons (eNot (eC1 anyD (eVB 3))) (aCons (eC1 anyD (eVB 3)) (aNil)))))) (eIdx (eF (aCons (eC (.str 0)) (aCons (eC (.str 2)) (aCons (eC (.str 3)) (aCons (eC (.str 1)) (aNil)))))) (eV 2))))))))
def F__law_holds : Fn := fnS0 5 B__law_holds
def B__law_some : Ss :=
  sRet (eC1 tupD (eF (aLc [2] (iRn1 (aCons (eV 1) (aNil))) (gN 2) (tV (eOp eqOp (eCall (F__law_next) (aCons (eV 0) (aCons (eC (.int 2)) (aNil)))) (eC (.int 1)))) (eV 2))))
def F__law_some : Fn := fnS0 3 B__law_some
def B__law_model : Ss :=
  sCons (sSet 3 (eCall (F__law_next) (aCons (eV 0) (aCons (eOp addD (eV 2) (eC (.int 1))) (aNil)))))
  (sCons (sSet 4 (eC1 tupD (eF (aLc [6] (iRn1 (aCons (eV 3) (aNil))) (gN 6) (tYes) (eTup (aCons (eOp ixD (eF (aCons (eC (.int 1)) (aCons (eC (.int 1)) (aCons (eC (.int 2)) (aCons (eC (.int 3)) (aNil)))))) (eCall (F__law_next) (aCons (eV 0) (aCons (eC (.int 4)) (aNil))))) (aCons (eCall (F__law_some) (aCons (eV 0) (aCons (eOp ixD (eV 1) (eC (.int 0))) (aNil)))) (aNil))))))))
  (sCons (sSet 5 (eC1 tupD (eF (aLc [7] (iRn1 (aCons (eOp ixD (eV 1) (eC (.int 1))) (aNil))) (gN 7) (tYes) (eC1 tupD (eF (aLc [6] (iRn1 (aCons (eV 3) (aNil))) (gN 6) (tYes) (eCall (F__law_some) (aCons (eV 0) (aCons (eV 3) (aNil)))))))))))
  (sRet (eTup (aCons (eV 4) (aCons (eV 5) (aCons (eC1 tupD (eF (aLc [7] (iRn1 (aCons (eOp ixD (eV 1) (eC (.int 1))) (aNil))) (gN 7) (tYes) (eCall (F__law_some) (aCons (eV 0) (aCons (eV 3) (aNil))))))) (aNil))))))))
def F__law_model : Fn := fnS0 8 B__law_model
def B__law_exchanged : Ss :=
  sCons (sAsg (gT 3 (gCons (gN 2) (gCons (gN 3) (gCons (gN 4) (gNil))))) (eV 0))
  (sCons (sSet 5 (eNewD))
  (sCons (sFor (iRn1 (aCons (eC1 lenD (eVB 1)) (aNil))) (gN 6) (sSetD (eV 5) (eOp ixD (eV 1) (eV 6)) (eV 6)))
  (sCons (sOwn 7 (aNil))
  (sCons (sFor (iSeq (eV 3)) (gN 8) (sApp 7 (eC1 tupD (eF (aLc [6] (iSeq (eV 1)) (gN 6) (tYes) (eC1 tupD (eC1 sortedD (eF (aLc [9] (iSeq (eOp ixD (eV 8) (eV 6))) (gN 9) (tYes) (eIxD (eV 5) (eV 9)))))))))))
  (sRet (eTup (aCons (eC1 tupD (eF (aLc [6] (iSeq (eV 1)) (gN 6) (tYes) (eOp ixD (eV 2) (eV 6))))) (aCons (eC1 tupD (eVB 7)) (aCons (eC1 tupD (eF (aLc [8] (iSeq (eV 4)) (gN 8) (tYes) (eC1 tupD (eC1 sortedD (eF (aLc [6] (iSeq (eV 8)) (gN 6) (tYes) (eIxD (eV 5) (eV 6))))))))) (aNil))))))))))
def F__law_exchanged : Fn := fnS0 10 B__law_exchanged
def B__law_parted : Ss :=
  sCons (sAsg (gT 3 (gCons (gN 2) (gCons (gN 3) (gCons (gN 4) (gNil))))) (eV 0))
  (sCons (sSet 5 (eC1 lenD (eVB 2)))
  (sCons (sAsg (gT 2 (gCons (gN 6) (gCons (gN 7) (gNil)))) (eOp ixD (eV 2) (eV 1)))
  (sCons (sOwn 8 (aNil))
  (sCons (sFor (iSeq (eV 3)) (gN 9) (sCons (sSet 10 (eF (aLc [11] (iSeq (eV 9)) (gN 11) (tYes) (eOp addD (eV 11) (eOp mulT (eTup (aCons (eV 5) (aNil))) (eC1 intD (eOp inOp (eV 1) (eVB 11))))))))
  (sApp 8 (eC1 tupD (eOp addD (eV 10) (eF (aCons (eOp ixD (eV 10) (eV 1)) (aNil))))))))
  (sRet (eTup (aCons (eOp addD (eOp addD (eOp addD (eSl (eV 2) (oNo) (oEx (eV 1))) (eTup (aCons (eTup (aCons (eOp subD (eV 6) (eC (.int 1))) (aCons (eV 7) (aNil)))) (aNil)))) (eSl (eV 2) (oEx (eOp addD (eV 1) (eC (.int 1)))) (oNo))) (eTup (aCons (eTup (aCons (eC (.int 1)) (aCons (eV 7) (aNil)))) (aNil)))) (aCons (eC1 tupD (eVB 8)) (aCons (eC1 tupD (eF (aLc [9] (iSeq (eV 4)) (gN 9) (tYes) (eOp addD (eV 9) (eOp mulT (eTup (aCons (eV 5) (aNil))) (eC1 intD (eOp inOp (eV 1) (eVB 9)))))))) (aNil))))))))))
def F__law_parted : Fn := fnS0 12 B__law_parted
def B_law : Ss :=
  sCons (sSet 1 (eCall (F__law_stream) (aCons (eV 0) (aNil))))
  (sCons (sSet 2 (eCall (F__law_signature) (aCons (eV 1) (aNil))))
  (sCons (sSet 3 (eCall (F__law_model) (aCons (eV 1) (aCons (eV 2) (aCons (eC (.int 4)) (aNil))))))
  (sCons (sSet 4 (eC1 lenD (eOp ixD (eV 3) (eC (.int 0)))))
  (sCons (sOwn 5 (aLr (eV 4)))
  (sCons (sSet 6 (eF (aLc [14] (iRn1 (aCons (eV 4) (aNil))) (gN 14) (tYes) (ePop 5 (eCall (F__law_next) (aCons (eV 1) (aCons (eC1 lenD (eVB 5)) (aNil))))))))
  (sCons (sOwn 7 (aCons (eCall (F__law_exchanged) (aCons (eV 3) (aCons (eV 6) (aNil)))) (aNil)))
  (sCons (sSet 8 (eF (aLc [15] (iRn1 (aCons (eV 4) (aNil))) (gN 15) (tV (eOp gtD (eOp ixD (eOp ixD (eOp ixD (eV 3) (eC (.int 0))) (eV 15)) (eC (.int 0))) (eC (.int 1)))) (eV 15))))
  (sCons (sIf (tU (eVB 8)) (sApp 7 (eCall (F__law_parted) (aCons (eV 3) (aCons (eOp ixD (eV 8) (eCall (F__law_next) (aCons (eV 1) (aCons (eC1 lenD (eVB 8)) (aNil))))) (aNil))))) (sNil))
  (sCons (sSet 9 (eCall (F__law_every) (aCons (eV 2) (aNil))))
  (sCons (sFor (iSeq (eV 7)) (gN 10) (sCons (sIf (tO (tV (eOp notBOp (eCall (F_agree) (aCons (eV 2) (aCons (eV 3) (aCons (eV 10) (aNil))))) (eC (.bl true)))) (tV (eOp notNOp (eCall (F_told_sentence) (aCons (eV 2) (aCons (eV 10) (aCons (eV 3) (aNil))))) (eC .non)))) (sRet (eC (.bl false))) (sNil))
  (sIf (tN (tU (eC1 allD (eF (aLc [11] (iSeq (eV 9)) (gN 11) (tYes) (eOp eqOp (eCall (F__law_holds) (aCons (eV 3) (aCons (eV 11) (aNil)))) (eCall (F__law_holds) (aCons (eV 10) (aCons (eV 11) (aNil)))))))))) (sRet (eC (.bl false))) (sNil))))
  (sCons (sSet 12 (eCall (F_union) (aCons (eV 2) (aCons (eV 3) (aCons (eV 3) (aNil))))))
  (sCons (sFor (iSeq (eV 9)) (gN 11) (sCons (sSet 13 (eAnd (eOp eqOp (eOp ixD (eV 11) (eC (.int 0))) (eC (.str 6))) (eOp eqOp (eOp isBOp (eOp ixD (eV 11) (eC (.int 3))) (eC (.bl true))) (eOp eqOp (eOp ixD (eV 11) (eC (.int 6))) (eC (.str 0))))))
  (sIf (tA (tN (tU (eVB 13))) (tV (eOp neOp (eCall (F__law_holds) (aCons (eV 3) (aCons (eV 11) (aNil)))) (eCall (F__law_holds) (aCons (eV 12) (aCons (eV 11) (aNil))))))) (sRet (eC (.bl false))) (sNil))))
  (sRet (eC (.bl true)))))))))))))))
def F_law : Fn := fnS0 16 B_law
theorem ok_is_integer {N : En} {w : World} {P : Program} {mg : Str → Option Value} {base : Heap} (T : Txt N w mg) (TB : Tabs N T base) : FnOk P w N.K mg base CX0 1 T.f_is_integer T.d_is_integer ["value", "least", "most"] (spOf N 3 F_is_integer) := by
  refine fn_sim (Ns := Nis_integer) (ps := ["value", "least", "most"]) (b := B_is_integer) T.F_is_integer scis_integer fun cdv A outer s H E hr => ?_
  exact sss_one (ss_ret (se_and (se_isi .int rfl (by rfl) T.n_isinstance (pe_bltn (v := .ty "int") (by rfl) T.n_int (by decide +kernel) rfl) (se_v 0)) (se_and (se_not (se_isi .bool rfl (by rfl) T.n_isinstance (pe_bltn (v := .ty "bool") (by rfl) T.n_bool (by decide +kernel) rfl) (se_v 0))) (se_one (se_chain op_le sim_le op_le sim_le (se_v 1) (se_v 0) (sb_v 2))))))
theorem ok_is_noun {N : En} {w : World} {P : Program} {mg : Str → Option Value} {base : Heap} (T : Txt N w mg) (TB : Tabs N T base) : FnOk P w N.K mg base CX0 2 T.f_is_noun T.d_is_noun ["signature", "value"] (spOf N 2 F_is_noun) := by
  refine fn_sim (Ns := Nis_noun) (ps := ["signature", "value"]) (b := B_is_noun) T.F_is_noun scis_noun fun cdv A outer s H E hr => ?_
  exact sss_one (ss_ret (se_call (ok_is_integer T TB) (hr.mono (by decide)) (by rfl) T.g_is_integer T.F_is_integer.kp T.b_is_integer px0 (sa_cons (se_v 1) (sa_cons (se_int) (sa_cons (se_sub (se_at (se_v 0) (se_int)) ((se_int).sb)) (sa_nil))))))
theorem ok_is_signature {N : En} {w : World} {P : Program} {mg : Str → Option Value} {base : Heap} (T : Txt N w mg) (TB : Tabs N T base) : FnOk P w N.K mg base CX0 2 T.f_is_signature T.d_is_signature ["value"] (spOf N 1 F_is_signature) := by
  refine fn_sim (Ns := Nis_signature) (ps := ["value"]) (b := B_is_signature) T.F_is_signature scis_signature fun cdv A outer s H E hr => ?_
  exact sss_cons (ss_if (sw_pt (sw_or (st_not (st_tru rfl ((se_isi .tuple rfl (by rfl) T.n_isinstance (pe_bltn (v := .ty "tuple") (by rfl) T.n_tuple (by decide +kernel) rfl) (se_v 0)).sb))) (sw_or1 (st_ne hr.units (se_len rfl (by rfl) T.n_len (sb_v 0)) ((se_int).sb))))) (sss_one (ss_ret (se_bl))) (sss_nil))
      (sss_one (ss_ret (se_and (se_call (ok_is_integer T TB) (hr.mono (by decide)) (by rfl) T.g_is_integer T.F_is_integer.kp T.b_is_integer px0 (sa_cons (se_at (se_v 0) (se_int)) (sa_cons (se_int) (sa_cons (se_glob (v := .int 4) (by rfl) T.c_MOST_NOUNS ⟨_, rfl⟩ (fun _ _ => .int _)) (sa_nil))))) (se_one (se_call (ok_is_integer T TB) (hr.mono (by decide)) (by rfl) T.g_is_integer T.F_is_integer.kp T.b_is_integer px0 (sa_cons (se_at (se_v 0) (se_int)) (sa_cons (se_int) (sa_cons (se_glob (v := .int 2) (by rfl) T.c_MOST_VERBS ⟨_, rfl⟩ (fun _ _ => .int _)) (sa_nil)))))))))
theorem ok_check_signature {N : En} {w : World} {P : Program} {mg : Str → Option Value} {base : Heap} (T : Txt N w mg) (TB : Tabs N T base) : FnOk P w N.K mg base CX0 3 T.f_check_signature T.d_check_signature ["signature"] (spOf N 1 F_check_signature) := by
  refine fn_sim (Ns := Ncheck_signature) (ps := ["signature"]) (b := B_check_signature) T.F_check_signature sccheck_signature fun cdv A outer s H E hr => ?_
  exact sss_one (ss_if (st_not (st_tru rfl ((se_call (ok_is_signature T TB) (hr.mono (by decide)) (by rfl) T.g_is_signature T.F_is_signature.kp T.b_is_signature px0 (sa_cons (se_v 0) (sa_nil))).sb))) (sss_one (ss_never)) (sss_nil))
theorem ok_negated {N : En} {w : World} {P : Program} {mg : Str → Option Value} {base : Heap} (T : Txt N w mg) (TB : Tabs N T base) : FnOk P w N.K mg base CX0 1 T.f_negated T.d_negated ["sentence"] (spOf N 1 F_negated) := by
  refine fn_sim (Ns := Nnegated) (ps := ["sentence"]) (b := B_negated) T.F_negated scnegated fun cdv A outer s H E hr => ?_
  exact sss_cons (ss_if (st_eq hr.units (se_at (se_v 0) (se_int)) ((se_str 6).sb)) (sss_cons (ss_asg (se_v 0) (sg_tup rfl rfl (sgs_cons (sg_name (i := 1) scnegated.nd rfl (Or.inl rfl)) (sgs_cons (sg_name (i := 2) scnegated.nd rfl (Or.inl rfl)) (sgs_cons (sg_name (i := 3) scnegated.nd rfl (Or.inl rfl)) (sgs_cons (sg_name (i := 4) scnegated.nd rfl (Or.inl rfl)) (sgs_cons (sg_name (i := 5) scnegated.nd rfl (Or.inl rfl)) (sgs_cons (sg_name (i := 6) scnegated.nd rfl (Or.inl rfl)) (sgs_cons (sg_name (i := 7) scnegated.nd rfl (Or.inl rfl)) (sgs_cons (sg_name (i := 8) scnegated.nd rfl (Or.inl rfl)) (sgs_nil)))))))))))
      (sss_one (ss_ret (se_tup (sa_cons (se_str 6) (sa_cons (se_kd (T.d_OTHER_QUANTIFIER) (by rfl) T.c_OTHER_QUANTIFIER (se_v 2)) (sa_cons (se_v 3) (sa_cons (se_not (se_v 4)) (sa_cons (se_v 5) (sa_cons (se_v 6) (sa_cons (se_kd (T.d_OTHER_QUANTIFIER) (by rfl) T.c_OTHER_QUANTIFIER (se_v 7)) (sa_cons (se_v 8) (sa_nil))))))))))))) (sss_nil))
      (sss_cons (ss_if (st_eq hr.units (se_at (se_v 0) (se_int)) ((se_str 7).sb)) (sss_cons (ss_asg (se_v 0) (sg_tup rfl rfl (sgs_cons (sg_name (i := 1) scnegated.nd rfl (Or.inl rfl)) (sgs_cons (sg_name (i := 2) scnegated.nd rfl (Or.inl rfl)) (sgs_cons (sg_name (i := 3) scnegated.nd rfl (Or.inl rfl)) (sgs_cons (sg_name (i := 4) scnegated.nd rfl (Or.inl rfl)) (sgs_cons (sg_name (i := 5) scnegated.nd rfl (Or.inl rfl)) (sgs_nil))))))))
      (sss_one (ss_ret (se_tup (sa_cons (se_str 7) (sa_cons (se_kd (T.d_OTHER_QUANTIFIER) (by rfl) T.c_OTHER_QUANTIFIER (se_v 2)) (sa_cons (se_v 3) (sa_cons (se_not (se_v 4)) (sa_cons (se_v 5) (sa_nil)))))))))) (sss_nil))
      (sss_cons (ss_asg (se_v 0) (sg_tup rfl rfl (sgs_cons (sg_name (i := 9) scnegated.nd rfl (Or.inl rfl)) (sgs_cons (sg_name (i := 3) scnegated.nd rfl (Or.inl rfl)) (sgs_cons (sg_name (i := 8) scnegated.nd rfl (Or.inl rfl)) (sgs_nil))))))
      (sss_one (ss_ret (se_tup (sa_cons (se_kd (T.d_OPPOSITES) (by rfl) T.c_OPPOSITES (se_v 9)) (sa_cons (se_v 3) (sa_cons (se_v 8) (sa_nil)))))))))
theorem ok__choices {N : En} {w : World} {P : Program} {mg : Str → Option Value} {base : Heap} (T : Txt N w mg) (TB : Tabs N T base) : FnOk P w N.K mg base CX0 1 T.f__choices T.d__choices ["signature", "word"] (spOf N 2 F__choices) := by
  refine fn_sim (Ns := N_choices) (ps := ["signature", "word"]) (b := B__choices) T.F__choices sc_choices fun cdv A outer s H E hr => ?_
  exact sss_cons (ss_set (i := 2) sc_choices.nd rfl (Or.inl rfl) (se_ftRg rfl (by rfl) T.n_tuple (by rfl) T.n_range (se_at (se_v 0) (se_int))))
      (sss_cons (ss_set (i := 3) sc_choices.nd rfl (Or.inl rfl) (se_ftRg rfl (by rfl) T.n_tuple (by rfl) T.n_range (se_at (se_v 0) (se_int))))
      (sss_cons (ss_if (st_eq hr.units (se_v 1) ((se_str 6).sb)) (sss_one (ss_ret (se_tup (sa_cons (se_glob (v := .ref T.a_QUANTIFIERS) (by rfl) T.c_QUANTIFIERS rfl T.f_QUANTIFIERS) (sa_cons (se_v 2) (sa_cons (se_glob (v := .ref T.a_TRUE_FIRST) (by rfl) T.c_TRUE_FIRST rfl T.f_TRUE_FIRST) (sa_cons (se_v 3) (sa_cons (se_glob (v := .ref T.a_TRUE_FIRST) (by rfl) T.c_TRUE_FIRST rfl T.f_TRUE_FIRST) (sa_cons (se_glob (v := .ref T.a_QUANTIFIERS) (by rfl) T.c_QUANTIFIERS rfl T.f_QUANTIFIERS) (sa_cons (se_v 2) (sa_nil))))))))))) (sss_nil))
      (sss_cons (ss_if (st_eq hr.units (se_v 1) ((se_str 7).sb)) (sss_one (ss_ret (se_tup (sa_cons (se_glob (v := .ref T.a_QUANTIFIERS) (by rfl) T.c_QUANTIFIERS rfl T.f_QUANTIFIERS) (sa_cons (se_v 2) (sa_cons (se_glob (v := .ref T.a_TRUE_FIRST) (by rfl) T.c_TRUE_FIRST rfl T.f_TRUE_FIRST) (sa_cons (se_v 3) (sa_nil)))))))) (sss_nil))
      (sss_one (ss_ret (se_tup (sa_cons (se_v 2) (sa_cons (se_v 2) (sa_nil)))))))))
theorem ok__count_with_word {N : En} {w : World} {P : Program} {mg : Str → Option Value} {base : Heap} (T : Txt N w mg) (TB : Tabs N T base) : FnOk P w N.K mg base CX0 2 T.f__count_with_word T.d__count_with_word ["signature", "word"] (spOf N 2 F__count_with_word) := by
  refine fn_sim (Ns := N_count_with_word) (ps := ["signature", "word"]) (b := B__count_with_word) T.F__count_with_word sc_count_with_word fun cdv A outer s H E hr => ?_
  exact sss_cons (ss_set (i := 2) sc_count_with_word.nd rfl (Or.inl rfl) (se_int))
      (sss_cons (ss_for PassesOwn.never rfl (si_seq rfl (se_call (ok__choices T TB) (hr.mono (by decide)) (by rfl) T.g__choices T.F__choices.kp T.b__choices px0 (sa_cons (se_v 0) (sa_cons (se_v 1) (sa_nil))))) (sg_name (i := 3) sc_count_with_word.nd rfl (Or.inl rfl)) (sss_one (ss_aug (i := 2) sc_count_with_word.nd rfl (Or.inl rfl) (se_len rfl (by rfl) T.n_len ((se_w (se_v 3)).sb)) iop_mul sim_mulI)))
      (sss_one (ss_ret (se_v 2))))
theorem ok__sentence_with_word {N : En} {w : World} {P : Program} {mg : Str → Option Value} {base : Heap} (T : Txt N w mg) (TB : Tabs N T base) : FnOk P w N.K mg base CX0 2 T.f__sentence_with_word T.d__sentence_with_word ["signature", "word", "index"] (spOf N 3 F__sentence_with_word) := by
  refine fn_sim (Ns := N_sentence_with_word) (ps := ["signature", "word", "index"]) (b := B__sentence_with_word) T.F__sentence_with_word sc_sentence_with_word fun cdv A outer s H E hr => ?_
  exact sss_cons (ss_own (i := 3) sc_sentence_with_word.nd rfl (Or.inl rfl) (sf_lst (sa_nil)))
      (sss_cons (ss_set (i := 4) sc_sentence_with_word.nd rfl (Or.inl rfl) (se_v 2))
      (sss_cons (ss_for PassesOwn.never rfl (si_revT rfl (by rfl) T.n_reversed (se_call (ok__choices T TB) (hr.mono (by decide)) (by rfl) T.g__choices T.F__choices.kp T.b__choices px0 (sa_cons (se_v 0) (sa_cons (se_v 1) (sa_nil))))) (sg_name (i := 5) sc_sentence_with_word.nd rfl (Or.inl rfl)) (sss_cons (ss_app (i := 3) (pe_var rfl (by first | exact Or.inl rfl | exact Or.inr (Or.inl rfl) | exact Or.inr (Or.inr rfl)) (by decide) (by decide)) (se_at (se_w (se_v 5)) (se_mod (se_v 4) ((se_len rfl (by rfl) T.n_len ((se_w (se_v 5)).sb)).sb))))
      (sss_one (ss_aug (i := 4) sc_sentence_with_word.nd rfl (Or.inl rfl) (se_len rfl (by rfl) T.n_len ((se_w (se_v 5)).sb)) iop_fdiv sim_fdiv))))
      (sss_one (ss_ret (se_add (se_tup (sa_cons (se_v 1) (sa_nil))) ((se_tuple rfl (by rfl) T.n_tuple ((se_f (sf_revL rfl (sb_v 3))).sb)).sb))))))
theorem ok_sentences_in_order {N : En} {w : World} {P : Program} {mg : Str → Option Value} {base : Heap} (T : Txt N w mg) (TB : Tabs N T base) : FnOk P w N.K mg base CX0 3 T.f_sentences_in_order T.d_sentences_in_order ["signature"] (spOf N 1 F_sentences_in_order) := by
  refine fn_sim (Ns := Nsentences_in_order) (ps := ["signature"]) (b := B_sentences_in_order) T.F_sentences_in_order scsentences_in_order fun cdv A outer s H E hr => ?_
  exact sss_cons (ss_own (i := 1) scsentences_in_order.nd rfl (Or.inl rfl) (sf_lst (sa_nil)))
      (sss_cons (ss_for PassesOwn.never rfl (si_seq rfl (se_glob (v := .ref T.a_WORDS) (by rfl) T.c_WORDS rfl T.t_WORDS)) (sg_name (i := 2) scsentences_in_order.nd rfl (Or.inr rfl)) (sss_cons (ss_set (i := 3) scsentences_in_order.nd rfl (Or.inl rfl) (se_call (ok__count_with_word T TB) (hr.mono (by decide)) (by rfl) T.g__count_with_word T.F__count_with_word.kp T.b__count_with_word px0 (sa_cons (se_v 0) (sa_cons (se_v 2) (sa_nil)))))
      (sss_one (ss_ext (i := 1) (pe_var rfl (by first | exact Or.inl rfl | exact Or.inr (Or.inl rfl) | exact Or.inr (Or.inr rfl)) (by decide) (by decide)) (se_f (sf_lc (own := [("index", 4)]) rfl scsentences_in_order.nd (si_rng1 (by rfl) T.n_range (sa_cons (se_v 3) (sa_nil))) (blkOk_by (own := [("index", 4)]) (N := Nsentences_in_order) (sc := defScope ssentences_in_order) (by decide +kernel)) (fun _ _ _ _ _ => sg_name (i := 4) scsentences_in_order.nd rfl (Or.inl rfl)) (fun _ _ _ _ _ => sts_nil) (fun _ _ _ _ _ => se_call (ok__sentence_with_word T TB) (hr.mono (by decide)) (by rfl) T.g__sentence_with_word T.F__sentence_with_word.kp T.b__sentence_with_word px0 (sa_cons (se_v 0) (sa_cons (se_v 2) (sa_cons (se_v 4) (sa_nil)))))))))))
      (sss_one (ss_ret (se_v 1))))
theorem ok_is_ascending {N : En} {w : World} {P : Program} {mg : Str → Option Value} {base : Heap} (T : Txt N w mg) (TB : Tabs N T base) : FnOk P w N.K mg base CX0 2 T.f_is_ascending T.d_is_ascending ["value"] (spOf N 1 F_is_ascending) := by
  refine fn_simC (Ns := Nis_ascending) (ps := ["value"]) (b := B_is_ascending) T.FC_is_ascending scis_ascending fun A outer s H E hr => ?_
  exact sss_one (ss_ret (se_gen (brk := false) (own := [("at", 1)]) T.m_is_ascending rfl hr (by rfl) T.n_all TB.b_is_ascending rfl scis_ascending.nd (si_rng1 (by rfl) T.n_range (sa_cons (se_sub (se_len rfl (by rfl) T.n_len (sb_v 0)) ((se_int).sb)) (sa_nil))) (blkOk_by (own := [("at", 1)]) (N := Nis_ascending) (sc := defScope sis_ascending) (by decide +kernel)) (by decide +kernel) rfl rfl (fun _ _ _ _ _ _ _ => sg_name (i := 1) scis_ascending.nd rfl (Or.inl rfl)) (fun _ _ _ _ _ _ _ => se_lt (se_at (se_v 0) (se_v 1)) ((se_at (se_v 0) (se_add (se_v 1) ((se_int).sb))).sb))))
theorem ok_are_groups {N : En} {w : World} {P : Program} {mg : Str → Option Value} {base : Heap} (T : Txt N w mg) (TB : Tabs N T base) : FnOk P w N.K mg base CX0 4 T.f_are_groups T.d_are_groups ["many", "value"] (spOf N 2 F_are_groups) := by
  refine fn_simC (Ns := Nare_groups) (ps := ["many", "value"]) (b := B_are_groups) T.FC_are_groups scare_groups fun A outer s H E hr => ?_
  exact sss_cons (ss_if (sw_pt (sw_or (st_not (st_tru rfl ((se_isi .tuple rfl (by rfl) T.n_isinstance (pe_bltn (v := .ty "tuple") (by rfl) T.n_tuple (by decide +kernel) rfl) (se_v 1)).sb))) (sw_or1 (st_not (st_tru rfl ((se_gen (brk := false) (own := [("group", 2)]) T.m_are_groups rfl hr (by rfl) T.n_all TB.b_are_groups rfl scare_groups.nd (si_seq rfl (se_v 1)) (blkOk_by (own := [("group", 2)]) (N := Nare_groups) (sc := defScope sare_groups) (by decide +kernel)) (by decide +kernel) rfl rfl (fun _ _ _ _ _ _ _ => sg_name (i := 2) scare_groups.nd rfl (Or.inl rfl)) (fun _ _ _ _ _ _ _ => se_call (ok_is_integer T TB) (GXX.room_gen (k := 1) (hr.mono (by decide))) (by rfl) T.g_is_integer T.F_is_integer.kp T.b_is_integer px0 (sa_cons (se_v 2) (sa_cons (se_int) (sa_cons (se_sub (se_v 0) ((se_int).sb)) (sa_nil)))))).sb)))))) (sss_one (ss_ret (se_bl))) (sss_nil))
      (sss_one (ss_ret (se_call (ok_is_ascending T TB) (hr.mono (by decide)) (by rfl) T.g_is_ascending T.F_is_ascending.kp T.b_is_ascending px0 (sa_cons (se_v 1) (sa_nil)))))
theorem ok__is_group {N : En} {w : World} {P : Program} {mg : Str → Option Value} {base : Heap} (T : Txt N w mg) (TB : Tabs N T base) : FnOk P w N.K mg base CX0 4 T.f__is_group T.d__is_group ["signature", "value"] (spOf N 2 F__is_group) := by
  refine fn_simC (Ns := N_is_group) (ps := ["signature", "value"]) (b := B__is_group) T.FC__is_group sc_is_group fun A outer s H E hr => ?_
  exact sss_cons (ss_if (sw_pt (sw_or (st_not (st_tru rfl ((se_isi .tuple rfl (by rfl) T.n_isinstance (pe_bltn (v := .ty "tuple") (by rfl) T.n_tuple (by decide +kernel) rfl) (se_v 1)).sb))) (sw_or1 (st_ne hr.units (se_len rfl (by rfl) T.n_len (sb_v 1)) ((se_int).sb))))) (sss_one (ss_ret (se_bl))) (sss_nil))
      (sss_cons (ss_asg (se_v 1) (sg_tup rfl rfl (sgs_cons (sg_name (i := 2) sc_is_group.nd rfl (Or.inl rfl)) (sgs_cons (sg_name (i := 3) sc_is_group.nd rfl (Or.inl rfl)) (sgs_nil)))))
      (sss_cons (ss_if (sw_pt (sw_or (st_not (st_tru rfl ((se_call (ok_is_integer T TB) (hr.mono (by decide)) (by rfl) T.g_is_integer T.F_is_integer.kp T.b_is_integer px0 (sa_cons (se_v 2) (sa_cons (se_int) (sa_cons (se_glob (v := .int 1000) (by rfl) T.c_MOST_OF_A_GROUP ⟨_, rfl⟩ (fun _ _ => .int _)) (sa_nil))))).sb))) (sw_or1 (st_not (st_tru rfl ((se_isi .tuple rfl (by rfl) T.n_isinstance (pe_bltn (v := .ty "tuple") (by rfl) T.n_tuple (by decide +kernel) rfl) (se_v 3)).sb)))))) (sss_one (ss_ret (se_bl))) (sss_nil))
      (sss_one (ss_ret (se_and (se_gen (brk := false) (own := [("noun", 4)]) T.m__is_group rfl hr (by rfl) T.n_all TB.b__is_group rfl sc_is_group.nd (si_seq rfl (se_v 3)) (blkOk_by (own := [("noun", 4)]) (N := N_is_group) (sc := defScope s_is_group) (by decide +kernel)) (by decide +kernel) rfl rfl (fun _ _ _ _ _ _ _ => sg_name (i := 4) sc_is_group.nd rfl (Or.inl rfl)) (fun _ _ _ _ _ _ _ => se_call (ok_is_noun T TB) (GXX.room_gen (k := 2) (hr.mono (by decide))) (by rfl) T.g_is_noun T.F_is_noun.kp T.b_is_noun px0 (sa_cons (se_v 0) (sa_cons (se_v 4) (sa_nil))))) (se_one (se_call (ok_is_ascending T TB) (hr.mono (by decide)) (by rfl) T.g_is_ascending T.F_is_ascending.kp T.b_is_ascending px0 (sa_cons (se_v 3) (sa_nil)))))))))
theorem ok__are_rows {N : En} {w : World} {P : Program} {mg : Str → Option Value} {base : Heap} (T : Txt N w mg) (TB : Tabs N T base) : FnOk P w N.K mg base CX0 6 T.f__are_rows T.d__are_rows ["many", "value"] (spOf N 2 F__are_rows) := by
  refine fn_simC (Ns := N_are_rows) (ps := ["many", "value"]) (b := B__are_rows) T.FC__are_rows sc_are_rows fun A outer s H E hr => ?_
  exact sss_cons (ss_if (sw_pt (sw_or (st_not (st_tru rfl ((se_isi .tuple rfl (by rfl) T.n_isinstance (pe_bltn (v := .ty "tuple") (by rfl) T.n_tuple (by decide +kernel) rfl) (se_v 1)).sb))) (sw_or1 (st_ne hr.units (se_len rfl (by rfl) T.n_len (sb_v 1)) (sb_v 0))))) (sss_one (ss_ret (se_bl))) (sss_nil))
      (sss_one (ss_ret (se_gen (brk := false) (own := [("row", 2)]) T.m__are_rows rfl hr (by rfl) T.n_all TB.b__are_rows rfl sc_are_rows.nd (si_seq rfl (se_v 1)) (blkOk_by (own := [("row", 2)]) (N := N_are_rows) (sc := defScope s_are_rows) (by decide +kernel)) (by decide +kernel) rfl rfl (fun _ _ _ _ _ _ _ => sg_name (i := 2) sc_are_rows.nd rfl (Or.inl rfl)) (fun _ _ _ _ _ _ _ => se_call (ok_are_groups T TB) (GXX.room_gen (k := 4) (hr.mono (by decide))) (by rfl) T.g_are_groups T.F_are_groups.kp T.b_are_groups px0 (sa_cons (se_v 0) (sa_cons (se_v 2) (sa_nil)))))))
theorem ok__has_one_for_each_verb {N : En} {w : World} {P : Program} {mg : Str → Option Value} {base : Heap} (T : Txt N w mg) (TB : Tabs N T base) : FnOk P w N.K mg base CX0 1 T.f__has_one_for_each_verb T.d__has_one_for_each_verb ["signature", "value"] (spOf N 2 F__has_one_for_each_verb) := by
  refine fn_sim (Ns := N_has_one_for_each_verb) (ps := ["signature", "value"]) (b := B__has_one_for_each_verb) T.F__has_one_for_each_verb sc_has_one_for_each_verb fun cdv A outer s H E hr => ?_
  exact sss_one (ss_ret (se_and (se_isi .tuple rfl (by rfl) T.n_isinstance (pe_bltn (v := .ty "tuple") (by rfl) T.n_tuple (by decide +kernel) rfl) (se_v 1)) (se_one (se_eq hr.units (se_len rfl (by rfl) T.n_len (sb_v 1)) ((se_at (se_v 0) (se_int)).sb)))))
theorem ok_is_model {N : En} {w : World} {P : Program} {mg : Str → Option Value} {base : Heap} (T : Txt N w mg) (TB : Tabs N T base) : FnOk P w N.K mg base CX0 8 T.f_is_model T.d_is_model ["signature", "value"] (spOf N 2 F_is_model) := by
  refine fn_simC (Ns := Nis_model) (ps := ["signature", "value"]) (b := B_is_model) T.FC_is_model scis_model fun A outer s H E hr => ?_
  exact sss_cons (ss_if (sw_pt (sw_or (st_not (st_tru rfl ((se_isi .tuple rfl (by rfl) T.n_isinstance (pe_bltn (v := .ty "tuple") (by rfl) T.n_tuple (by decide +kernel) rfl) (se_v 1)).sb))) (sw_or1 (st_ne hr.units (se_len rfl (by rfl) T.n_len (sb_v 1)) ((se_int).sb))))) (sss_one (ss_ret (se_bl))) (sss_nil))
      (sss_cons (ss_asg (se_v 1) (sg_tup rfl rfl (sgs_cons (sg_name (i := 2) scis_model.nd rfl (Or.inl rfl)) (sgs_cons (sg_name (i := 3) scis_model.nd rfl (Or.inl rfl)) (sgs_cons (sg_name (i := 4) scis_model.nd rfl (Or.inl rfl)) (sgs_nil))))))
      (sss_cons (ss_if (sw_pt (sw_or (st_not (st_tru rfl ((se_isi .tuple rfl (by rfl) T.n_isinstance (pe_bltn (v := .ty "tuple") (by rfl) T.n_tuple (by decide +kernel) rfl) (se_v 2)).sb))) (sw_or1 (st_gt (se_len rfl (by rfl) T.n_len (sb_v 2)) ((se_glob (v := .int 40) (by rfl) T.c_MOST_GROUPS ⟨_, rfl⟩ (fun _ _ => .int _)).sb))))) (sss_one (ss_ret (se_bl))) (sss_nil))
      (sss_cons (ss_if (st_not (st_tru rfl ((se_gen (brk := false) (own := [("group", 6)]) T.m_is_model rfl hr (by rfl) T.n_all TB.b_is_model rfl scis_model.nd (si_seq rfl (se_v 2)) (blkOk_by (own := [("group", 6)]) (N := Nis_model) (sc := defScope sis_model) (by decide +kernel)) (by decide +kernel) rfl rfl (fun _ _ _ _ _ _ _ => sg_name (i := 6) scis_model.nd rfl (Or.inl rfl)) (fun _ _ _ _ _ _ _ => se_call (ok__is_group T TB) (GXX.room_gen (k := 4) (hr.mono (by decide))) (by rfl) T.g__is_group T.F__is_group.kp T.b__is_group px0 (sa_cons (se_v 0) (sa_cons (se_v 6) (sa_nil))))).sb))) (sss_one (ss_ret (se_bl))) (sss_nil))
      (sss_cons (ss_if (sw_pt (sw_or (st_not (st_tru rfl ((se_call (ok__has_one_for_each_verb T TB) (hr.mono (by decide)) (by rfl) T.g__has_one_for_each_verb T.F__has_one_for_each_verb.kp T.b__has_one_for_each_verb px0 (sa_cons (se_v 0) (sa_cons (se_v 3) (sa_nil)))).sb))) (sw_or1 (st_not (st_tru rfl ((se_call (ok__has_one_for_each_verb T TB) (hr.mono (by decide)) (by rfl) T.g__has_one_for_each_verb T.F__has_one_for_each_verb.kp T.b__has_one_for_each_verb px0 (sa_cons (se_v 0) (sa_cons (se_v 4) (sa_nil)))).sb)))))) (sss_one (ss_ret (se_bl))) (sss_nil))
      (sss_cons (ss_set (i := 5) scis_model.nd rfl (Or.inr rfl) (se_len rfl (by rfl) T.n_len (sb_v 2)))
      (sss_one (ss_ret (se_and (se_gen (brk := false) (own := [("rows", 7)]) T.m_is_model rfl hr (by rfl) T.n_all TB.b_is_model rfl scis_model.nd (si_seq rfl (se_v 3)) (blkOk_by (own := [("rows", 7)]) (N := Nis_model) (sc := defScope sis_model) (by decide +kernel)) (by decide +kernel) rfl rfl (fun _ _ _ _ _ _ _ => sg_name (i := 7) scis_model.nd rfl (Or.inl rfl)) (fun _ _ _ _ _ _ _ => se_call (ok__are_rows T TB) (GXX.room_gen (k := 6) (hr.mono (by decide))) (by rfl) T.g__are_rows T.F__are_rows.kp T.b__are_rows px0 (sa_cons (se_v 5) (sa_cons (se_v 7) (sa_nil))))) (se_one (se_gen (brk := false) (own := [("row", 8)]) T.m_is_model rfl hr (by rfl) T.n_all TB.b_is_model rfl scis_model.nd (si_seq rfl (se_v 4)) (blkOk_by (own := [("row", 8)]) (N := Nis_model) (sc := defScope sis_model) (by decide +kernel)) (by decide +kernel) rfl rfl (fun _ _ _ _ _ _ _ => sg_name (i := 8) scis_model.nd rfl (Or.inl rfl)) (fun _ _ _ _ _ _ _ => se_call (ok_are_groups T TB) (GXX.room_gen (k := 4) (hr.mono (by decide))) (by rfl) T.g_are_groups T.F_are_groups.kp T.b_are_groups px0 (sa_cons (se_v 5) (sa_cons (se_v 8) (sa_nil))))))))))))))
theorem ok_check_model {N : En} {w : World} {P : Program} {mg : Str → Option Value} {base : Heap} (T : Txt N w mg) (TB : Tabs N T base) : FnOk P w N.K mg base CX0 9 T.f_check_model T.d_check_model ["signature", "model", "name"] (spOf N 3 F_check_model) := by
  refine fn_sim (Ns := Ncheck_model) (ps := ["signature", "model", "name"]) (b := B_check_model) T.F_check_model sccheck_model fun cdv A outer s H E hr => ?_
  exact sss_one (ss_if (st_not (st_tru rfl ((se_call (ok_is_model T TB) (hr.mono (by decide)) (by rfl) T.g_is_model T.F_is_model.kp T.b_is_model px0 (sa_cons (se_v 0) (sa_cons (se_v 1) (sa_nil)))).sb))) (sss_one (ss_never)) (sss_nil))
theorem ok_says_some {N : En} {w : World} {P : Program} {mg : Str → Option Value} {base : Heap} (T : Txt N w mg) (TB : Tabs N T base) : FnOk P w N.K mg base CX0 1 T.f_says_some T.d_says_some ["sentence"] (spOf N 1 F_says_some) := by
  refine fn_sim (Ns := Nsays_some) (ps := ["sentence"]) (b := B_says_some) T.F_says_some scsays_some fun cdv A outer s H E hr => ?_
  exact sss_one (ss_ret (se_or (se_in (u65 hr) (se_at (se_v 0) (se_int)) ((se_tup (sa_cons (se_str 1) (sa_cons (se_str 2) (sa_nil)))).sb)) (se_one (se_eq hr.units (se_at (se_v 0) (se_int)) ((se_str 1).sb)))))
theorem ok_compares_sizes {N : En} {w : World} {P : Program} {mg : Str → Option Value} {base : Heap} (T : Txt N w mg) (TB : Tabs N T base) : FnOk P w N.K mg base CX0 1 T.f_compares_sizes T.d_compares_sizes ["sentence"] (spOf N 1 F_compares_sizes) := by
  refine fn_sim (Ns := Ncompares_sizes) (ps := ["sentence"]) (b := B_compares_sizes) T.F_compares_sizes sccompares_sizes fun cdv A outer s H E hr => ?_
  exact sss_one (ss_ret (se_in (u65 hr) (se_at (se_v 0) (se_int)) ((se_tup (sa_cons (se_str 4) (sa_cons (se_str 5) (sa_nil)))).sb)))
theorem ok__deeds {N : En} {w : World} {P : Program} {mg : Str → Option Value} {base : Heap} (T : Txt N w mg) (TB : Tabs N T base) : FnOk P w N.K mg base CX0 1 T.f__deeds T.d__deeds ["model", "group", "v", "by", "y"] (spOf N 5 F__deeds) := by
  refine fn_sim (Ns := N_deeds) (ps := ["model", "group", "v", "by", "y"]) (b := B__deeds) T.F__deeds sc_deeds fun cdv A outer s H E hr => ?_
  exact sss_cons (ss_asg (se_v 0) (sg_tup rfl rfl (sgs_cons (sg_name (i := 5) sc_deeds.nd rfl (Or.inl rfl)) (sgs_cons (sg_name (i := 6) sc_deeds.nd rfl (Or.inl rfl)) (sgs_cons (sg_name (i := 7) sc_deeds.nd rfl (Or.inl rfl)) (sgs_nil))))))
      (sss_cons (ss_own (i := 8) sc_deeds.nd rfl (Or.inl rfl) (sf_lst (sa_nil)))
      (sss_cons (ss_for PassesOwn.never rfl (si_rng1 (by rfl) T.n_range (sa_cons (se_len rfl (by rfl) T.n_len (sb_v 5)) (sa_nil))) (sg_name (i := 9) sc_deeds.nd rfl (Or.inl rfl)) (sss_cons (ss_asg (se_at (se_v 5) (se_v 9)) (sg_tup rfl rfl (sgs_cons (sg_name (i := 10) sc_deeds.nd rfl (Or.inl rfl)) (sgs_cons (sg_name (i := 11) sc_deeds.nd rfl (Or.inl rfl)) (sgs_nil)))))
      (sss_one (ss_if (st_in (u65 hr) (se_v 4) (sb_v 11)) (sss_cons (ss_if (sw_pt (sw_or (st_ne hr.units (se_v 9) (sb_v 1)) (sw_or1 (st_gt (se_v 10) ((se_int).sb))))) (sss_one (ss_app (i := 8) (pe_var rfl (by first | exact Or.inl rfl | exact Or.inr (Or.inl rfl) | exact Or.inr (Or.inr rfl)) (by decide) (by decide)) (se_if (st_tru rfl (sb_v 3)) (se_in (u65 hr) (se_v 1) ((se_at (se_at (se_v 6) (se_v 2)) (se_v 9)).sb)) (se_in (u65 hr) (se_v 9) ((se_at (se_at (se_v 6) (se_v 2)) (se_v 1)).sb))))) (sss_nil))
      (sss_one (ss_if (st_eq hr.units (se_v 9) (sb_v 1)) (sss_one (ss_app (i := 8) (pe_var rfl (by first | exact Or.inl rfl | exact Or.inr (Or.inl rfl) | exact Or.inr (Or.inr rfl)) (by decide) (by decide)) (se_in (u65 hr) (se_v 1) ((se_at (se_v 7) (se_v 2)).sb)))) (sss_nil)))) (sss_nil)))))
      (sss_one (ss_ret (se_v 8)))))
theorem ok_is_as_said {N : En} {w : World} {P : Program} {mg : Str → Option Value} {base : Heap} (T : Txt N w mg) (TB : Tabs N T base) : FnOk P w N.K mg base CX0 3 T.f_is_as_said T.d_is_as_said ["model", "sentence", "group"] (spOf N 3 F_is_as_said) := by
  refine fn_simC (Ns := Nis_as_said) (ps := ["model", "sentence", "group"]) (b := B_is_as_said) T.FC_is_as_said scis_as_said fun A outer s H E hr => ?_
  exact sss_cons (ss_asg (se_v 0) (sg_tup rfl rfl (sgs_cons (sg_name (i := 3) scis_as_said.nd rfl (Or.inl rfl)) (sgs_cons (sg_name (i := 4) scis_as_said.nd rfl (Or.inl rfl)) (sgs_cons (sg_name (i := 5) scis_as_said.nd rfl (Or.inl rfl)) (sgs_nil))))))
      (sss_cons (ss_set (i := 6) scis_as_said.nd rfl (Or.inl rfl) (se_at (se_at (se_v 3) (se_v 2)) (se_int)))
      (sss_cons (ss_if (st_eq hr.units (se_at (se_v 1) (se_int)) ((se_str 6).sb)) (sss_cons (ss_asg (se_v 1) (sg_tup rfl rfl (sgs_cons (sg_name (i := 4) scis_as_said.nd rfl (Or.inl rfl)) (sgs_cons (sg_name (i := 4) scis_as_said.nd rfl (Or.inl rfl)) (sgs_cons (sg_name (i := 7) scis_as_said.nd rfl (Or.inl rfl)) (sgs_cons (sg_name (i := 14) scis_as_said.nd rfl (Or.inr rfl)) (sgs_cons (sg_name (i := 8) scis_as_said.nd rfl (Or.inl rfl)) (sgs_cons (sg_name (i := 9) scis_as_said.nd rfl (Or.inl rfl)) (sgs_cons (sg_name (i := 10) scis_as_said.nd rfl (Or.inl rfl)) (sgs_cons (sg_name (i := 11) scis_as_said.nd rfl (Or.inl rfl)) (sgs_nil)))))))))))
      (sss_cons (ss_if (st_notIn (u65 hr) (se_v 7) (sb_v 6)) (sss_one (ss_ret (se_bl))) (sss_nil))
      (sss_cons (ss_set (i := 12) scis_as_said.nd rfl (Or.inl rfl) (se_call (ok__deeds T TB) (hr.mono (by decide)) (by rfl) T.g__deeds T.F__deeds.kp T.b__deeds px0 (sa_cons (se_v 0) (sa_cons (se_v 2) (sa_cons (se_v 8) (sa_cons (se_v 9) (sa_cons (se_v 11) (sa_nil))))))))
      (sss_cons (ss_if (st_eq hr.units (se_v 10) ((se_str 1).sb)) (sss_one (ss_ret (se_in (u65 hr) (se_v 14) (sb_v 12)))) (sss_nil))
      (sss_one (ss_ret (se_gen (brk := false) (own := [("answer", 15)]) T.m_is_as_said rfl hr (by rfl) T.n_all TB.b_is_as_said rfl scis_as_said.nd (si_seq rfl (se_v 12)) (blkOk_by (own := [("answer", 15)]) (N := Nis_as_said) (sc := defScope sis_as_said) (by decide +kernel)) (by decide +kernel) rfl rfl (fun _ _ _ _ _ _ _ => sg_name (i := 15) scis_as_said.nd rfl (Or.inl rfl)) (fun _ _ _ _ _ _ _ => se_eq (GXX.room_gen (k := 0) (hr.mono (by decide))).units (se_v 15) (sb_v 14))))))))) (sss_nil))
      (sss_cons (ss_if (st_eq hr.units (se_at (se_v 1) (se_int)) ((se_str 7).sb)) (sss_cons (ss_asg (se_v 1) (sg_tup rfl rfl (sgs_cons (sg_name (i := 4) scis_as_said.nd rfl (Or.inl rfl)) (sgs_cons (sg_name (i := 4) scis_as_said.nd rfl (Or.inl rfl)) (sgs_cons (sg_name (i := 7) scis_as_said.nd rfl (Or.inl rfl)) (sgs_cons (sg_name (i := 14) scis_as_said.nd rfl (Or.inr rfl)) (sgs_cons (sg_name (i := 8) scis_as_said.nd rfl (Or.inl rfl)) (sgs_nil))))))))
      (sss_one (ss_ret (se_and (se_in (u65 hr) (se_v 7) (sb_v 6)) (se_one (se_eq hr.units (se_in (u65 hr) (se_v 2) ((se_at (se_v 5) (se_v 8)).sb)) (sb_v 14))))))) (sss_nil))
      (sss_cons (ss_asg (se_v 1) (sg_tup rfl rfl (sgs_cons (sg_name (i := 13) scis_as_said.nd rfl (Or.inl rfl)) (sgs_cons (sg_name (i := 7) scis_as_said.nd rfl (Or.inl rfl)) (sgs_cons (sg_name (i := 11) scis_as_said.nd rfl (Or.inl rfl)) (sgs_nil))))))
      (sss_one (ss_ret (se_and (se_in (u65 hr) (se_v 7) (sb_v 6)) (se_one (se_eq hr.units (se_in (u65 hr) (se_v 11) (sb_v 6)) ((se_eq hr.units (se_v 13) ((se_str 1).sb)).sb))))))))))
theorem ok_first_as_said {N : En} {w : World} {P : Program} {mg : Str → Option Value} {base : Heap} (T : Txt N w mg) (TB : Tabs N T base) : FnOk P w N.K mg base CX0 4 T.f_first_as_said T.d_first_as_said ["model", "sentence"] (spOf N 2 F_first_as_said) := by
  refine fn_sim (Ns := Nfirst_as_said) (ps := ["model", "sentence"]) (b := B_first_as_said) T.F_first_as_said scfirst_as_said fun cdv A outer s H E hr => ?_
  exact sss_cons (ss_for PassesOwn.never rfl (si_rng1 (by rfl) T.n_range (sa_cons (se_len rfl (by rfl) T.n_len ((se_at (se_v 0) (se_int)).sb)) (sa_nil))) (sg_name (i := 2) scfirst_as_said.nd rfl (Or.inl rfl)) (sss_one (ss_if (st_tru rfl ((se_call (ok_is_as_said T TB) (hr.mono (by decide)) (by rfl) T.g_is_as_said T.F_is_as_said.kp T.b_is_as_said px0 (sa_cons (se_v 0) (sa_cons (se_v 1) (sa_cons (se_v 2) (sa_nil))))).sb)) (sss_one (ss_ret (se_v 2))) (sss_nil))))
      (sss_one (ss_ret (se_non)))
theorem ok_size_of_noun {N : En} {w : World} {P : Program} {mg : Str → Option Value} {base : Heap} (T : Txt N w mg) (TB : Tabs N T base) : FnOk P w N.K mg base CX0 2 T.f_size_of_noun T.d_size_of_noun ["model", "noun"] (spOf N 2 F_size_of_noun) := by
  refine fn_simC (Ns := Nsize_of_noun) (ps := ["model", "noun"]) (b := B_size_of_noun) T.FC_size_of_noun scsize_of_noun fun A outer s H E hr => ?_
  exact sss_one (ss_ret (se_sumG (own := [("size", 2), ("nouns", 3)]) T.m_size_of_noun rfl hr (by rfl) T.n_sum TB.b_size_of_noun rfl scsize_of_noun.nd (si_seq rfl (se_at (se_v 0) (se_int))) (blkOk_by (own := [("size", 2), ("nouns", 3)]) (N := Nsize_of_noun) (sc := defScope ssize_of_noun) (by decide +kernel)) (by decide +kernel) rfl rfl (fun _ _ _ _ _ _ _ => sg_tup rfl rfl (sgs_cons (sg_name (i := 2) scsize_of_noun.nd rfl (Or.inl rfl)) (sgs_cons (sg_name (i := 3) scsize_of_noun.nd rfl (Or.inl rfl)) (sgs_nil)))) (fun _ _ _ _ _ _ _ => sgt_one (st_in (u65 (GXX.room_genT (k := 0) (hr.mono (by decide)))) (se_v 1) (sb_v 3))) (fun _ _ _ _ _ _ _ => se_v 2)))
theorem ok_holds_in {N : En} {w : World} {P : Program} {mg : Str → Option Value} {base : Heap} (T : Txt N w mg) (TB : Tabs N T base) : FnOk P w N.K mg base CX0 5 T.f_holds_in T.d_holds_in ["model", "sentence"] (spOf N 2 F_holds_in) := by
  refine fn_sim (Ns := Nholds_in) (ps := ["model", "sentence"]) (b := B_holds_in) T.F_holds_in scholds_in fun cdv A outer s H E hr => ?_
  exact sss_cons (ss_if (st_tru rfl ((se_call (ok_compares_sizes T TB) (hr.mono (by decide)) (by rfl) T.g_compares_sizes T.F_compares_sizes.kp T.b_compares_sizes px0 (sa_cons (se_v 1) (sa_nil))).sb)) (sss_cons (ss_asg (se_v 1) (sg_tup rfl rfl (sgs_cons (sg_name (i := 2) scholds_in.nd rfl (Or.inl rfl)) (sgs_cons (sg_name (i := 3) scholds_in.nd rfl (Or.inl rfl)) (sgs_cons (sg_name (i := 4) scholds_in.nd rfl (Or.inl rfl)) (sgs_nil))))))
      (sss_one (ss_ret (se_eq hr.units (se_ge (se_call (ok_size_of_noun T TB) (hr.mono (by decide)) (by rfl) T.g_size_of_noun T.F_size_of_noun.kp T.b_size_of_noun px0 (sa_cons (se_v 0) (sa_cons (se_v 3) (sa_nil)))) ((se_call (ok_size_of_noun T TB) (hr.mono (by decide)) (by rfl) T.g_size_of_noun T.F_size_of_noun.kp T.b_size_of_noun px0 (sa_cons (se_v 0) (sa_cons (se_v 4) (sa_nil)))).sb)) ((se_eq hr.units (se_v 2) ((se_str 4).sb)).sb))))) (sss_nil))
      (sss_cons (ss_if (st_tru rfl ((se_call (ok_says_some T TB) (hr.mono (by decide)) (by rfl) T.g_says_some T.F_says_some.kp T.b_says_some px0 (sa_cons (se_v 1) (sa_nil))).sb)) (sss_one (ss_ret (se_notN (se_call (ok_first_as_said T TB) (hr.mono (by decide)) (by rfl) T.g_first_as_said T.F_first_as_said.kp T.b_first_as_said px0 (sa_cons (se_v 0) (sa_cons (se_v 1) (sa_nil)))) ((se_non).sb)))) (sss_nil))
      (sss_one (ss_ret (se_isN (se_call (ok_first_as_said T TB) (hr.mono (by decide)) (by rfl) T.g_first_as_said T.F_first_as_said.kp T.b_first_as_said px0 (sa_cons (se_v 0) (sa_cons (se_call (ok_negated T TB) (hr.mono (by decide)) (by rfl) T.g_negated T.F_negated.kp T.b_negated px0 (sa_cons (se_v 1) (sa_nil))) (sa_nil)))) ((se_non).sb)))))
theorem ok__check_both {N : En} {w : World} {P : Program} {mg : Str → Option Value} {base : Heap} (T : Txt N w mg) (TB : Tabs N T base) : FnOk P w N.K mg base CX0 10 T.f__check_both T.d__check_both ["signature", "first", "second"] (spOf N 3 F__check_both) := by
  refine fn_sim (Ns := N_check_both) (ps := ["signature", "first", "second"]) (b := B__check_both) T.F__check_both sc_check_both fun cdv A outer s H E hr => ?_
  exact sss_cons (ss_ex (se_call (ok_check_signature T TB) (hr.mono (by decide)) (by rfl) T.g_check_signature T.F_check_signature.kp T.b_check_signature px0 (sa_cons (se_v 0) (sa_nil))))
      (sss_cons (ss_ex (se_call (ok_check_model T TB) (hr.mono (by decide)) (by rfl) T.g_check_model T.F_check_model.kp T.b_check_model px0 (sa_cons (se_v 0) (sa_cons (se_v 1) (sa_cons (se_str 19) (sa_nil))))))
      (sss_one (ss_ex (se_call (ok_check_model T TB) (hr.mono (by decide)) (by rfl) T.g_check_model T.F_check_model.kp T.b_check_model px0 (sa_cons (se_v 0) (sa_cons (se_v 2) (sa_cons (se_str 20) (sa_nil))))))))
theorem ok__is_telling {N : En} {w : World} {P : Program} {mg : Str → Option Value} {base : Heap} (T : Txt N w mg) (TB : Tabs N T base) : FnOk P w N.K mg base CX0 6 T.f__is_telling T.d__is_telling ["first", "second", "sentence"] (spOf N 3 F__is_telling) := by
  refine fn_sim (Ns := N_is_telling) (ps := ["first", "second", "sentence"]) (b := B__is_telling) T.F__is_telling sc_is_telling fun cdv A outer s H E hr => ?_
  exact sss_one (ss_ret (se_ne hr.units (se_call (ok_holds_in T TB) (hr.mono (by decide)) (by rfl) T.g_holds_in T.F_holds_in.kp T.b_holds_in px0 (sa_cons (se_v 0) (sa_cons (se_v 2) (sa_nil)))) ((se_call (ok_holds_in T TB) (hr.mono (by decide)) (by rfl) T.g_holds_in T.F_holds_in.kp T.b_holds_in px0 (sa_cons (se_v 1) (sa_cons (se_v 2) (sa_nil)))).sb)))
theorem ok__first_telling {N : En} {w : World} {P : Program} {mg : Str → Option Value} {base : Heap} (T : Txt N w mg) (TB : Tabs N T base) : FnOk P w N.K mg base CX0 7 T.f__first_telling T.d__first_telling ["first", "second", "sentences"] (spOf N 3 F__first_telling) := by
  refine fn_sim (Ns := N_first_telling) (ps := ["first", "second", "sentences"]) (b := B__first_telling) T.F__first_telling sc_first_telling fun cdv A outer s H E hr => ?_
  exact sss_cons (ss_for PassesOwn.never rfl (si_seq rfl (se_v 2)) (sg_name (i := 3) sc_first_telling.nd rfl (Or.inl rfl)) (sss_one (ss_if (st_tru rfl ((se_call (ok__is_telling T TB) (hr.mono (by decide)) (by rfl) T.g__is_telling T.F__is_telling.kp T.b__is_telling px0 (sa_cons (se_v 0) (sa_cons (se_v 1) (sa_cons (se_v 3) (sa_nil))))).sb)) (sss_one (ss_ret (se_v 3))) (sss_nil))))
      (sss_one (ss_ret (se_non)))
theorem ok_told_sentence {N : En} {w : World} {P : Program} {mg : Str → Option Value} {base : Heap} (T : Txt N w mg) (TB : Tabs N T base) : FnOk P w N.K mg base CX0 11 T.f_told_sentence T.d_told_sentence ["signature", "first", "second"] (spOf N 3 F_told_sentence) := by
  refine fn_sim (Ns := Ntold_sentence) (ps := ["signature", "first", "second"]) (b := B_told_sentence) T.F_told_sentence sctold_sentence fun cdv A outer s H E hr => ?_
  exact sss_cons (ss_ex (se_call (ok__check_both T TB) (hr.mono (by decide)) (by rfl) T.g__check_both T.F__check_both.kp T.b__check_both px0 (sa_cons (se_v 0) (sa_cons (se_v 1) (sa_cons (se_v 2) (sa_nil))))))
      (sss_one (ss_ret (se_call (ok__first_telling T TB) (hr.mono (by decide)) (by rfl) T.g__first_telling T.F__first_telling.kp T.b__first_telling px0 (sa_cons (se_v 1) (sa_cons (se_v 2) (sa_cons (se_call (ok_sentences_in_order T TB) (hr.mono (by decide)) (by rfl) T.g_sentences_in_order T.F_sentences_in_order.kp T.b_sentences_in_order px0 (sa_cons (se_v 0) (sa_nil))) (sa_nil)))))))
theorem ok_agree {N : En} {w : World} {P : Program} {mg : Str → Option Value} {base : Heap} (T : Txt N w mg) (TB : Tabs N T base) : FnOk P w N.K mg base CX0 11 T.f_agree T.d_agree ["signature", "first", "second"] (spOf N 3 F_agree) := by
  refine fn_sim (Ns := Nagree) (ps := ["signature", "first", "second"]) (b := B_agree) T.F_agree scagree fun cdv A outer s H E hr => ?_
  exact sss_cons (ss_ex (se_call (ok__check_both T TB) (hr.mono (by decide)) (by rfl) T.g__check_both T.F__check_both.kp T.b__check_both px0 (sa_cons (se_v 0) (sa_cons (se_v 1) (sa_cons (se_v 2) (sa_nil))))))
      (sss_one (ss_ret (se_isN (se_call (ok__first_telling T TB) (hr.mono (by decide)) (by rfl) T.g__first_telling T.F__first_telling.kp T.b__first_telling px0 (sa_cons (se_v 1) (sa_cons (se_v 2) (sa_cons (se_call (ok_sentences_in_order T TB) (hr.mono (by decide)) (by rfl) T.g_sentences_in_order T.F_sentences_in_order.kp T.b_sentences_in_order px0 (sa_cons (se_v 0) (sa_nil))) (sa_nil))))) ((se_non).sb))))
theorem ok__moved {N : En} {w : World} {P : Program} {mg : Str → Option Value} {base : Heap} (T : Txt N w mg) (TB : Tabs N T base) : FnOk P w N.K mg base CX0 1 T.f__moved T.d__moved ["row", "many"] (spOf N 2 F__moved) := by
  refine fn_sim (Ns := N_moved) (ps := ["row", "many"]) (b := B__moved) T.F__moved sc_moved fun cdv A outer s H E hr => ?_
  exact sss_one (ss_ret (se_tuple rfl (by rfl) T.n_tuple ((se_f (sf_lc (own := [("group", 2)]) rfl sc_moved.nd (si_seq rfl (se_v 0)) (blkOk_by (own := [("group", 2)]) (N := N_moved) (sc := defScope s_moved) (by decide +kernel)) (fun _ _ _ _ _ => sg_name (i := 2) sc_moved.nd rfl (Or.inl rfl)) (fun _ _ _ _ _ => sts_nil) (fun _ _ _ _ _ => se_add (se_v 2) (sb_v 1)))).sb)))
theorem ok_union {N : En} {w : World} {P : Program} {mg : Str → Option Value} {base : Heap} (T : Txt N w mg) (TB : Tabs N T base) : FnOk P w N.K mg base CX0 11 T.f_union T.d_union ["signature", "first", "second"] (spOf N 3 F_union) := by
  refine fn_sim (Ns := Nunion) (ps := ["signature", "first", "second"]) (b := B_union) T.F_union scunion fun cdv A outer s H E hr => ?_
  exact sss_cons (ss_ex (se_call (ok__check_both T TB) (hr.mono (by decide)) (by rfl) T.g__check_both T.F__check_both.kp T.b__check_both px0 (sa_cons (se_v 0) (sa_cons (se_v 1) (sa_cons (se_v 2) (sa_nil))))))
      (sss_cons (ss_set (i := 3) scunion.nd rfl (Or.inr rfl) (se_len rfl (by rfl) T.n_len ((se_at (se_v 1) (se_int)).sb)))
      (sss_cons (ss_if (st_gt (se_add (se_v 3) ((se_len rfl (by rfl) T.n_len ((se_at (se_v 2) (se_int)).sb)).sb)) ((se_glob (v := .int 40) (by rfl) T.c_MOST_GROUPS ⟨_, rfl⟩ (fun _ _ => .int _)).sb)) (sss_one (ss_never)) (sss_nil))
      (sss_cons (ss_own (i := 4) scunion.nd rfl (Or.inl rfl) (sf_lst (sa_nil)))
      (sss_cons (ss_for PassesOwn.never rfl (si_zipT rfl (by rfl) T.n_zip (sa_cons (se_at (se_v 1) (se_int)) (sa_cons (se_at (se_v 2) (se_int)) (sa_nil)))) (sg_tup rfl rfl (sgs_cons (sg_name (i := 5) scunion.nd rfl (Or.inl rfl)) (sgs_cons (sg_name (i := 6) scunion.nd rfl (Or.inl rfl)) (sgs_nil)))) (sss_one (ss_app (i := 4) (pe_var rfl (by first | exact Or.inl rfl | exact Or.inr (Or.inl rfl) | exact Or.inr (Or.inr rfl)) (by decide) (by decide)) (se_add (se_v 5) ((se_tuple rfl (by rfl) T.n_tuple ((se_f (sf_lc (own := [("row", 8)]) rfl scunion.nd (si_seq rfl (se_v 6)) (blkOk_by (own := [("row", 8)]) (N := Nunion) (sc := defScope sunion) (by decide +kernel)) (fun _ _ _ _ _ => sg_name (i := 8) scunion.nd rfl (Or.inl rfl)) (fun _ _ _ _ _ => sts_nil) (fun _ _ _ _ _ => se_call (ok__moved T TB) (hr.mono (by decide)) (by rfl) T.g__moved T.F__moved.kp T.b__moved px0 (sa_cons (se_v 8) (sa_cons (se_v 3) (sa_nil)))))).sb)).sb)))))
      (sss_cons (ss_setLc (i := 7) (own := [("row", 8), ("other", 9)]) rfl scunion.nd rfl rfl (sw_true rfl rfl rfl (by decide +kernel)) (si_zipT rfl (by rfl) T.n_zip (sa_cons (se_at (se_v 1) (se_int)) (sa_cons (se_at (se_v 2) (se_int)) (sa_nil)))) (blkOk_by (own := [("row", 8), ("other", 9)]) (N := Nunion) (sc := defScope sunion) (by decide +kernel)) (fun _ _ _ _ _ => sg_tup rfl rfl (sgs_cons (sg_name (i := 8) scunion.nd rfl (Or.inl rfl)) (sgs_cons (sg_name (i := 9) scunion.nd rfl (Or.inl rfl)) (sgs_nil)))) (fun _ _ _ _ _ => sts_nil) (fun _ _ _ _ _ => se_add (se_v 8) ((se_call (ok__moved T TB) (hr.mono (by decide)) (by rfl) T.g__moved T.F__moved.kp T.b__moved px0 (sa_cons (se_v 9) (sa_cons (se_v 3) (sa_nil)))).sb)))
      (sss_one (ss_ret (se_tup (sa_cons (se_add (se_at (se_v 1) (se_int)) ((se_at (se_v 2) (se_int)).sb)) (sa_cons (se_tuple rfl (by rfl) T.n_tuple (sb_v 4)) (sa_cons (se_tuple rfl (by rfl) T.n_tuple (sb_v 7)) (sa_nil))))))))))))
theorem ok__law_stream {N : En} {w : World} {P : Program} {mg : Str → Option Value} {base : Heap} (T : Txt N w mg) (TB : Tabs N T base) : FnOk P w N.K mg base CX0 1 T.f__law_stream T.d__law_stream ["script"] (spOf N 1 F__law_stream) := by
  refine fn_sim (Ns := N_law_stream) (ps := ["script"]) (b := B__law_stream) T.F__law_stream sc_law_stream fun cdv A outer s H E hr => ?_
  exact sss_one (ss_ret (se_new (sf_lst (sa_cons (se_f (sf_list rfl (by rfl) T.n_list (sb_v 0))) (sa_cons (se_int) (sa_cons (se_int) (sa_nil)))))))
theorem ok__law_next {N : En} {w : World} {P : Program} {mg : Str → Option Value} {base : Heap} (T : Txt N w mg) (TB : Tabs N T base) : FnOk P w N.K mg base CX0 1 T.f__law_next T.d__law_next ["stream", "many"] (spOf N 2 F__law_next) := by
  refine fn_sim (Ns := N_law_next) (ps := ["stream", "many"]) (b := B__law_next) T.F__law_next sc_law_next fun cdv A outer s H E hr => ?_
  exact sss_cons (ss_if (st_eq hr.units (se_ixC rfl (se_v 0) (se_int) (fun _ _ => rfl)) ((se_int).sb)) (sss_cons (ss_set (i := 2) sc_law_next.nd rfl (Or.inl rfl) (se_ixC rfl (se_v 0) (se_int) (fun _ _ => rfl)))
      (sss_cons (ss_set (i := 3) sc_law_next.nd rfl (Or.inl rfl) (se_add (se_int) (sb_v 2)))
      (sss_cons (ss_if (st_lt (se_v 2) ((se_len rfl (by rfl) T.n_len ((se_ixC rfl (se_v 0) (se_int) (fun _ _ => rfl)).sb)).sb)) (sss_one (ss_set (i := 3) sc_law_next.nd rfl (Or.inl rfl) (se_abs (by rfl) T.n_abs ((se_at (se_ixC rfl (se_v 0) (se_int) (fun _ _ => rfl)) (se_v 2)).sb)))) (sss_nil))
      (sss_cons (ss_if (st_lt (se_v 3) ((se_pow (se_int) ((se_int).sb)).sb)) (sss_cons (ss_set (i := 3) sc_law_next.nd rfl (Or.inl rfl) (se_mod (se_int1 (by rfl) T.n_int ((se_add (se_add (se_mul (se_v 3) ((se_int).sb)) ((se_mul (se_v 2) ((se_int).sb)).sb)) ((se_int).sb)).sb)) ((se_int).sb)))
      (sss_one (ss_set (i := 3) sc_law_next.nd rfl (Or.inl rfl) (se_add (se_mul (se_mod (se_int1 (by rfl) T.n_int ((se_add (se_mul (se_v 3) ((se_int).sb)) ((se_int).sb)).sb)) ((se_int).sb)) ((se_int).sb)) (sb_v 3))))) (sss_nil))
      (sss_cons (ss_setC rfl (se_v 0) (se_int) (se_v 3))
      (sss_one (ss_setC rfl (se_v 0) (se_int) (se_add (se_v 2) ((se_int).sb))))))))) (sss_nil))
      (sss_cons (ss_set (i := 4) sc_law_next.nd rfl (Or.inl rfl) (se_mod (se_int1 (by rfl) T.n_int ((se_ixC rfl (se_v 0) (se_int) (fun _ _ => rfl)).sb)) (sb_v 1)))
      (sss_cons (ss_setC rfl (se_v 0) (se_int) (se_fdiv (se_ixC rfl (se_v 0) (se_int) (fun _ _ => rfl)) (sb_v 1)))
      (sss_one (ss_ret (se_v 4)))))
theorem ok__law_noun_words {N : En} {w : World} {P : Program} {mg : Str → Option Value} {base : Heap} (T : Txt N w mg) (TB : Tabs N T base) : FnOk P w N.K mg base CX0 1 T.f__law_noun_words T.d__law_noun_words [] (spOf N 0 F__law_noun_words) := by
  refine fn_sim (Ns := N_law_noun_words) (ps := []) (b := B__law_noun_words) T.F__law_noun_words sc_law_noun_words fun cdv A outer s H E hr => ?_
  exact sss_one (ss_ret (se_f (sf_lst (sa_cons (se_str 0) (sa_cons (se_str 2) (sa_cons (se_str 3) (sa_cons (se_str 1) (sa_cons (se_str 4) (sa_cons (se_str 5) (sa_nil))))))))))
theorem ok__law_every {N : En} {w : World} {P : Program} {mg : Str → Option Value} {base : Heap} (T : Txt N w mg) (TB : Tabs N T base) : FnOk P w N.K mg base CX0 2 T.f__law_every T.d__law_every ["signature"] (spOf N 1 F__law_every) := by
  refine fn_sim (Ns := N_law_every) (ps := ["signature"]) (b := B__law_every) T.F__law_every sc_law_every fun cdv A outer s H E hr => ?_
  exact sss_cons (ss_set (i := 1) sc_law_every.nd rfl (Or.inl rfl) (se_f (sf_listRg rfl (by rfl) T.n_list (by rfl) T.n_range (se_at (se_v 0) (se_int)))))
      (sss_cons (ss_set (i := 2) sc_law_every.nd rfl (Or.inl rfl) (se_f (sf_lst (sa_nil))))
      (sss_cons (ss_for PassesOwn.never rfl (si_seq rfl (se_call0 (ok__law_noun_words T TB) (hr.mono (by decide)) (by rfl) T.g__law_noun_words T.F__law_noun_words.kp T.b__law_noun_words)) (sg_name (i := 3) sc_law_every.nd rfl (Or.inr rfl)) (sss_one (ss_for PassesOwn.never rfl (si_seq rfl (se_v 1)) (sg_name (i := 4) sc_law_every.nd rfl (Or.inr rfl)) (sss_one (ss_set (i := 2) sc_law_every.nd rfl (Or.inl rfl) (se_add (se_v 2) ((se_f (sf_lc (own := [("other", 9)]) rfl sc_law_every.nd (si_seq rfl (se_v 1)) (blkOk_by (own := [("other", 9)]) (N := N_law_every) (sc := defScope s_law_every) (by decide +kernel)) (fun _ _ _ _ _ => sg_name (i := 9) sc_law_every.nd rfl (Or.inl rfl)) (fun _ _ _ _ _ => sts_nil) (fun _ _ _ _ _ => se_tup (sa_cons (se_v 3) (sa_cons (se_v 4) (sa_cons (se_v 9) (sa_nil))))))).sb)))))))
      (sss_cons (ss_set (i := 5) sc_law_every.nd rfl (Or.inl rfl) (se_f (sf_lst (sa_cons (se_tup (sa_cons (se_str 6) (sa_nil))) (sa_nil)))))
      (sss_cons (ss_for PassesOwn.never rfl (si_seq rfl (se_f (sf_lst (sa_cons (se_f (sf_lst (sa_cons (se_str 0) (sa_cons (se_str 1) (sa_nil))))) (sa_cons (se_v 1) (sa_cons (se_f (sf_lst (sa_cons (se_bl) (sa_cons (se_bl) (sa_nil))))) (sa_cons (se_f (sf_listRg rfl (by rfl) T.n_list (by rfl) T.n_range (se_at (se_v 0) (se_int)))) (sa_cons (se_f (sf_lst (sa_cons (se_bl) (sa_cons (se_bl) (sa_nil))))) (sa_cons (se_f (sf_lst (sa_cons (se_str 0) (sa_cons (se_str 1) (sa_nil))))) (sa_cons (se_v 1) (sa_nil))))))))))) (sg_name (i := 6) sc_law_every.nd rfl (Or.inl rfl)) (sss_cons (ss_set (i := 7) sc_law_every.nd rfl (Or.inl rfl) (se_f (sf_lst (sa_nil))))
      (sss_cons (ss_for PassesOwn.never rfl (si_seq rfl (se_v 5)) (sg_name (i := 8) sc_law_every.nd rfl (Or.inr rfl)) (sss_one (ss_set (i := 7) sc_law_every.nd rfl (Or.inl rfl) (se_add (se_v 7) ((se_f (sf_lc (own := [("item", 10)]) rfl sc_law_every.nd (si_seq rfl (se_v 6)) (blkOk_by (own := [("item", 10)]) (N := N_law_every) (sc := defScope s_law_every) (by decide +kernel)) (fun _ _ _ _ _ => sg_name (i := 10) sc_law_every.nd rfl (Or.inl rfl)) (fun _ _ _ _ _ => sts_nil) (fun _ _ _ _ _ => se_add (se_v 8) ((se_tup (sa_cons (se_v 10) (sa_nil))).sb)))).sb)))))
      (sss_one (ss_set (i := 5) sc_law_every.nd rfl (Or.inl rfl) (se_v 7))))))
      (sss_cons (ss_set (i := 2) sc_law_every.nd rfl (Or.inl rfl) (se_add (se_v 2) (sb_v 5)))
      (sss_cons (ss_set (i := 5) sc_law_every.nd rfl (Or.inl rfl) (se_f (sf_lst (sa_cons (se_tup (sa_cons (se_str 7) (sa_nil))) (sa_nil)))))
      (sss_cons (ss_for PassesOwn.never rfl (si_seq rfl (se_f (sf_lst (sa_cons (se_f (sf_lst (sa_cons (se_str 0) (sa_cons (se_str 1) (sa_nil))))) (sa_cons (se_v 1) (sa_cons (se_f (sf_lst (sa_cons (se_bl) (sa_cons (se_bl) (sa_nil))))) (sa_cons (se_f (sf_listRg rfl (by rfl) T.n_list (by rfl) T.n_range (se_at (se_v 0) (se_int)))) (sa_nil)))))))) (sg_name (i := 6) sc_law_every.nd rfl (Or.inl rfl)) (sss_cons (ss_set (i := 7) sc_law_every.nd rfl (Or.inl rfl) (se_f (sf_lst (sa_nil))))
      (sss_cons (ss_for PassesOwn.never rfl (si_seq rfl (se_v 5)) (sg_name (i := 8) sc_law_every.nd rfl (Or.inr rfl)) (sss_one (ss_set (i := 7) sc_law_every.nd rfl (Or.inl rfl) (se_add (se_v 7) ((se_f (sf_lc (own := [("item", 10)]) rfl sc_law_every.nd (si_seq rfl (se_v 6)) (blkOk_by (own := [("item", 10)]) (N := N_law_every) (sc := defScope s_law_every) (by decide +kernel)) (fun _ _ _ _ _ => sg_name (i := 10) sc_law_every.nd rfl (Or.inl rfl)) (fun _ _ _ _ _ => sts_nil) (fun _ _ _ _ _ => se_add (se_v 8) ((se_tup (sa_cons (se_v 10) (sa_nil))).sb)))).sb)))))
      (sss_one (ss_set (i := 5) sc_law_every.nd rfl (Or.inl rfl) (se_v 7))))))
      (sss_one (ss_ret (se_add (se_v 2) (sb_v 5)))))))))))
theorem ok__law_signature {N : En} {w : World} {P : Program} {mg : Str → Option Value} {base : Heap} (T : Txt N w mg) (TB : Tabs N T base) : FnOk P w N.K mg base CX0 2 T.f__law_signature T.d__law_signature ["stream"] (spOf N 1 F__law_signature) := by
  refine fn_sim (Ns := N_law_signature) (ps := ["stream"]) (b := B__law_signature) T.F__law_signature sc_law_signature fun cdv A outer s H E hr => ?_
  exact sss_one (ss_ret (se_at (se_f (sf_lst (sa_cons (se_tup (sa_cons (se_int) (sa_cons (se_int) (sa_nil)))) (sa_cons (se_tup (sa_cons (se_int) (sa_cons (se_int) (sa_nil)))) (sa_cons (se_tup (sa_cons (se_int) (sa_cons (se_int) (sa_nil)))) (sa_cons (se_tup (sa_cons (se_int) (sa_cons (se_int) (sa_nil)))) (sa_cons (se_tup (sa_cons (se_int) (sa_cons (se_int) (sa_nil)))) (sa_cons (se_tup (sa_cons (se_int) (sa_cons (se_int) (sa_nil)))) (sa_nil))))))))) (se_call (ok__law_next T TB) (hr.mono (by decide)) (by rfl) T.g__law_next T.F__law_next.kp T.b__law_next px0 (sa_cons (se_v 0) (sa_cons (se_int) (sa_nil))))))
theorem ok__law_having {N : En} {w : World} {P : Program} {mg : Str → Option Value} {base : Heap} (T : Txt N w mg) (TB : Tabs N T base) : FnOk P w N.K mg base CX0 1 T.f__law_having T.d__law_having ["model", "noun"] (spOf N 2 F__law_having) := by
  refine fn_sim (Ns := N_law_having) (ps := ["model", "noun"]) (b := B__law_having) T.F__law_having sc_law_having fun cdv A outer s H E hr => ?_
  exact sss_one (ss_ret (se_f (sf_lc (own := [("at", 2)]) rfl sc_law_having.nd (si_rng1 (by rfl) T.n_range (sa_cons (se_len rfl (by rfl) T.n_len ((se_at (se_v 0) (se_int)).sb)) (sa_nil))) (blkOk_by (own := [("at", 2)]) (N := N_law_having) (sc := defScope s_law_having) (by decide +kernel)) (fun _ _ _ _ _ => sg_name (i := 2) sc_law_having.nd rfl (Or.inl rfl)) (fun _ _ _ _ _ => sts_one (st_in (u65 hr) (se_v 1) ((se_at (se_at (se_at (se_v 0) (se_int)) (se_v 2)) (se_int)).sb))) (fun _ _ _ _ _ => se_v 2))))
theorem ok__law_size {N : En} {w : World} {P : Program} {mg : Str → Option Value} {base : Heap} (T : Txt N w mg) (TB : Tabs N T base) : FnOk P w N.K mg base CX0 2 T.f__law_size T.d__law_size ["model", "noun"] (spOf N 2 F__law_size) := by
  refine fn_sim (Ns := N_law_size) (ps := ["model", "noun"]) (b := B__law_size) T.F__law_size sc_law_size fun cdv A outer s H E hr => ?_
  exact sss_one (ss_ret (se_sum rfl rfl (by rfl) T.n_sum ((se_f (sf_lc (own := [("at", 2)]) rfl sc_law_size.nd (si_seq rfl (se_call (ok__law_having T TB) (hr.mono (by decide)) (by rfl) T.g__law_having T.F__law_having.kp T.b__law_having px0 (sa_cons (se_v 0) (sa_cons (se_v 1) (sa_nil))))) (blkOk_by (own := [("at", 2)]) (N := N_law_size) (sc := defScope s_law_size) (by decide +kernel)) (fun _ _ _ _ _ => sg_name (i := 2) sc_law_size.nd rfl (Or.inl rfl)) (fun _ _ _ _ _ => sts_nil) (fun _ _ _ _ _ => se_at (se_at (se_at (se_v 0) (se_int)) (se_v 2)) (se_int)))).sb)))
theorem ok__law_seen {N : En} {w : World} {P : Program} {mg : Str → Option Value} {base : Heap} (T : Txt N w mg) (TB : Tabs N T base) : FnOk P w N.K mg base CX0 2 T.f__law_seen T.d__law_seen ["model", "group", "verb", "by", "noun"] (spOf N 5 F__law_seen) := by
  refine fn_sim (Ns := N_law_seen) (ps := ["model", "group", "verb", "by", "noun"]) (b := B__law_seen) T.F__law_seen sc_law_seen fun cdv A outer s H E hr => ?_
  exact sss_cons (ss_own (i := 5) sc_law_seen.nd rfl (Or.inl rfl) (sf_lst (sa_nil)))
      (sss_cons (ss_for PassesOwn.never rfl (si_seq rfl (se_call (ok__law_having T TB) (hr.mono (by decide)) (by rfl) T.g__law_having T.F__law_having.kp T.b__law_having px0 (sa_cons (se_v 0) (sa_cons (se_v 4) (sa_nil))))) (sg_name (i := 6) sc_law_seen.nd rfl (Or.inl rfl)) (sss_cons (ss_if (st_eq hr.units (se_v 6) (sb_v 1)) (sss_one (ss_app (i := 5) (pe_var rfl (by first | exact Or.inl rfl | exact Or.inr (Or.inl rfl) | exact Or.inr (Or.inr rfl)) (by decide) (by decide)) (se_in (u65 hr) (se_v 1) ((se_at (se_at (se_v 0) (se_int)) (se_v 2)).sb)))) (sss_nil))
      (sss_one (ss_if (sw_pt (sw_or (st_ne hr.units (se_v 6) (sb_v 1)) (sw_or1 (st_gt (se_at (se_at (se_at (se_v 0) (se_int)) (se_v 1)) (se_int)) ((se_int).sb))))) (sss_cons (ss_set (i := 7) sc_law_seen.nd rfl (Or.inl rfl) (se_tup (sa_cons (se_v 1) (sa_cons (se_v 6) (sa_nil)))))
      (sss_cons (ss_if (st_tru rfl (sb_v 3)) (sss_one (ss_set (i := 7) sc_law_seen.nd rfl (Or.inl rfl) (se_tup (sa_cons (se_v 6) (sa_cons (se_v 1) (sa_nil)))))) (sss_nil))
      (sss_one (ss_app (i := 5) (pe_var rfl (by first | exact Or.inl rfl | exact Or.inr (Or.inl rfl) | exact Or.inr (Or.inr rfl)) (by decide) (by decide)) (se_in (u65 hr) (se_at (se_v 7) (se_int)) ((se_at (se_at (se_at (se_v 0) (se_int)) (se_v 2)) (se_at (se_v 7) (se_int))).sb)))))) (sss_nil)))))
      (sss_one (ss_ret (se_v 5))))
theorem ok__law_says {N : En} {w : World} {P : Program} {mg : Str → Option Value} {base : Heap} (T : Txt N w mg) (TB : Tabs N T base) : FnOk P w N.K mg base CX0 3 T.f__law_says T.d__law_says ["model", "sentence", "group"] (spOf N 3 F__law_says) := by
  refine fn_sim (Ns := N_law_says) (ps := ["model", "sentence", "group"]) (b := B__law_says) T.F__law_says sc_law_says fun cdv A outer s H E hr => ?_
  exact sss_cons (ss_if (st_eq hr.units (se_at (se_v 1) (se_int)) ((se_str 7).sb)) (sss_one (ss_ret (se_eq hr.units (se_in (u65 hr) (se_v 2) ((se_at (se_at (se_v 0) (se_int)) (se_at (se_v 1) (se_int))).sb)) ((se_at (se_v 1) (se_int)).sb)))) (sss_nil))
      (sss_cons (ss_setLc (i := 3) (own := [("one", 4)]) rfl sc_law_says.nd rfl rfl (sw_true rfl rfl rfl (by decide +kernel)) (si_seq rfl (se_call (ok__law_seen T TB) (hr.mono (by decide)) (by rfl) T.g__law_seen T.F__law_seen.kp T.b__law_seen px0 (sa_cons (se_v 0) (sa_cons (se_v 2) (sa_cons (se_at (se_v 1) (se_int)) (sa_cons (se_at (se_v 1) (se_int)) (sa_cons (se_at (se_v 1) (se_int)) (sa_nil)))))))) (blkOk_by (own := [("one", 4)]) (N := N_law_says) (sc := defScope s_law_says) (by decide +kernel)) (fun _ _ _ _ _ => sg_name (i := 4) sc_law_says.nd rfl (Or.inl rfl)) (fun _ _ _ _ _ => sts_nil) (fun _ _ _ _ _ => se_eq hr.units (se_v 4) ((se_at (se_v 1) (se_int)).sb)))
      (sss_cons (ss_if (st_eq hr.units (se_at (se_v 1) (se_int)) ((se_str 0).sb)) (sss_one (ss_ret (se_all rfl rfl (by rfl) T.n_all (sb_v 3)))) (sss_nil))
      (sss_one (ss_ret (se_any rfl rfl (by rfl) T.n_any (sb_v 3))))))
theorem ok__law_holds {N : En} {w : World} {P : Program} {mg : Str → Option Value} {base : Heap} (T : Txt N w mg) (TB : Tabs N T base) : FnOk P w N.K mg base CX0 4 T.f__law_holds T.d__law_holds ["model", "sentence"] (spOf N 2 F__law_holds) := by
  refine fn_sim (Ns := N_law_holds) (ps := ["model", "sentence"]) (b := B__law_holds) T.F__law_holds sc_law_holds fun cdv A outer s H E hr => ?_
  exact sss_cons (ss_set (i := 2) sc_law_holds.nd rfl (Or.inl rfl) (se_at (se_v 1) (se_int)))
      (sss_cons (ss_if (st_eq hr.units (se_v 2) ((se_str 4).sb)) (sss_one (ss_ret (se_ge (se_call (ok__law_size T TB) (hr.mono (by decide)) (by rfl) T.g__law_size T.F__law_size.kp T.b__law_size px0 (sa_cons (se_v 0) (sa_cons (se_at (se_v 1) (se_int)) (sa_nil)))) ((se_call (ok__law_size T TB) (hr.mono (by decide)) (by rfl) T.g__law_size T.F__law_size.kp T.b__law_size px0 (sa_cons (se_v 0) (sa_cons (se_at (se_v 1) (se_int)) (sa_nil)))).sb)))) (sss_nil))
      (sss_cons (ss_if (st_eq hr.units (se_v 2) ((se_str 5).sb)) (sss_one (ss_ret (se_lt (se_call (ok__law_size T TB) (hr.mono (by decide)) (by rfl) T.g__law_size T.F__law_size.kp T.b__law_size px0 (sa_cons (se_v 0) (sa_cons (se_at (se_v 1) (se_int)) (sa_nil)))) ((se_call (ok__law_size T TB) (hr.mono (by decide)) (by rfl) T.g__law_size T.F__law_size.kp T.b__law_size px0 (sa_cons (se_v 0) (sa_cons (se_at (se_v 1) (se_int)) (sa_nil)))).sb)))) (sss_nil))
      (sss_cons (ss_if (st_in (u65 hr) (se_v 2) ((se_f (sf_lst (sa_cons (se_str 6) (sa_cons (se_str 7) (sa_nil))))).sb)) (sss_cons (ss_setLc (i := 3) (own := [("group", 4)]) rfl sc_law_holds.nd rfl rfl (sw_true rfl rfl rfl (by decide +kernel)) (si_seq rfl (se_call (ok__law_having T TB) (hr.mono (by decide)) (by rfl) T.g__law_having T.F__law_having.kp T.b__law_having px0 (sa_cons (se_v 0) (sa_cons (se_at (se_v 1) (se_int)) (sa_nil))))) (blkOk_by (own := [("group", 4)]) (N := N_law_holds) (sc := defScope s_law_holds) (by decide +kernel)) (fun _ _ _ _ _ => sg_name (i := 4) sc_law_holds.nd rfl (Or.inl rfl)) (fun _ _ _ _ _ => sts_nil) (fun _ _ _ _ _ => se_call (ok__law_says T TB) (hr.mono (by decide)) (by rfl) T.g__law_says T.F__law_says.kp T.b__law_says px0 (sa_cons (se_v 0) (sa_cons (se_v 1) (sa_cons (se_v 4) (sa_nil))))))
      (sss_cons (ss_if (st_eq hr.units (se_at (se_v 1) (se_int)) ((se_str 0).sb)) (sss_one (ss_ret (se_all rfl rfl (by rfl) T.n_all (sb_v 3)))) (sss_nil))
      (sss_one (ss_ret (se_any rfl rfl (by rfl) T.n_any (sb_v 3)))))) (sss_nil))
      (sss_cons (ss_setLc (i := 3) (own := [("group", 4)]) rfl sc_law_holds.nd rfl rfl (sw_true rfl rfl rfl (by decide +kernel)) (si_seq rfl (se_call (ok__law_having T TB) (hr.mono (by decide)) (by rfl) T.g__law_having T.F__law_having.kp T.b__law_having px0 (sa_cons (se_v 0) (sa_cons (se_at (se_v 1) (se_int)) (sa_nil))))) (blkOk_by (own := [("group", 4)]) (N := N_law_holds) (sc := defScope s_law_holds) (by decide +kernel)) (fun _ _ _ _ _ => sg_name (i := 4) sc_law_holds.nd rfl (Or.inl rfl)) (fun _ _ _ _ _ => sts_nil) (fun _ _ _ _ _ => se_in (u65 hr) (se_at (se_v 1) (se_int)) ((se_at (se_at (se_at (se_v 0) (se_int)) (se_v 4)) (se_int)).sb)))
      (sss_one (ss_ret (se_at (se_f (sf_lst (sa_cons (se_all rfl rfl (by rfl) T.n_all (sb_v 3)) (sa_cons (se_not (se_all rfl rfl (by rfl) T.n_all (sb_v 3))) (sa_cons (se_not (se_any rfl rfl (by rfl) T.n_any (sb_v 3))) (sa_cons (se_any rfl rfl (by rfl) T.n_any (sb_v 3)) (sa_nil))))))) (se_index rfl (se_f (sf_lst (sa_cons (se_str 0) (sa_cons (se_str 2) (sa_cons (se_str 3) (sa_cons (se_str 1) (sa_nil))))))) (se_v 2)))))))))
theorem ok__law_some {N : En} {w : World} {P : Program} {mg : Str → Option Value} {base : Heap} (T : Txt N w mg) (TB : Tabs N T base) : FnOk P w N.K mg base CX0 2 T.f__law_some T.d__law_some ["stream", "many"] (spOf N 2 F__law_some) := by
  refine fn_sim (Ns := N_law_some) (ps := ["stream", "many"]) (b := B__law_some) T.F__law_some sc_law_some fun cdv A outer s H E hr => ?_
  exact sss_one (ss_ret (se_tuple rfl (by rfl) T.n_tuple ((se_f (sf_lc (own := [("one", 2)]) rfl sc_law_some.nd (si_rng1 (by rfl) T.n_range (sa_cons (se_v 1) (sa_nil))) (blkOk_by (own := [("one", 2)]) (N := N_law_some) (sc := defScope s_law_some) (by decide +kernel)) (fun _ _ _ _ _ => sg_name (i := 2) sc_law_some.nd rfl (Or.inl rfl)) (fun _ _ _ _ _ => sts_one (st_eq hr.units (se_call (ok__law_next T TB) (hr.mono (by decide)) (by rfl) T.g__law_next T.F__law_next.kp T.b__law_next px0 (sa_cons (se_v 0) (sa_cons (se_int) (sa_nil)))) ((se_int).sb))) (fun _ _ _ _ _ => se_v 2))).sb)))
theorem ok__law_model {N : En} {w : World} {P : Program} {mg : Str → Option Value} {base : Heap} (T : Txt N w mg) (TB : Tabs N T base) : FnOk P w N.K mg base CX0 3 T.f__law_model T.d__law_model ["stream", "signature", "most"] (spOf N 3 F__law_model) := by
  refine fn_sim (Ns := N_law_model) (ps := ["stream", "signature", "most"]) (b := B__law_model) T.F__law_model sc_law_model fun cdv A outer s H E hr => ?_
  exact sss_cons (ss_set (i := 3) sc_law_model.nd rfl (Or.inr rfl) (se_call (ok__law_next T TB) (hr.mono (by decide)) (by rfl) T.g__law_next T.F__law_next.kp T.b__law_next px0 (sa_cons (se_v 0) (sa_cons (se_add (se_v 2) ((se_int).sb)) (sa_nil)))))
      (sss_cons (ss_set (i := 4) sc_law_model.nd rfl (Or.inl rfl) (se_tuple rfl (by rfl) T.n_tuple ((se_f (sf_lc (own := [("turn", 6)]) rfl sc_law_model.nd (si_rng1 (by rfl) T.n_range (sa_cons (se_v 3) (sa_nil))) (blkOk_by (own := [("turn", 6)]) (N := N_law_model) (sc := defScope s_law_model) (by decide +kernel)) (fun _ _ _ _ _ => sg_name (i := 6) sc_law_model.nd rfl (Or.inl rfl)) (fun _ _ _ _ _ => sts_nil) (fun _ _ _ _ _ => se_tup (sa_cons (se_at (se_f (sf_lst (sa_cons (se_int) (sa_cons (se_int) (sa_cons (se_int) (sa_cons (se_int) (sa_nil))))))) (se_call (ok__law_next T TB) (hr.mono (by decide)) (by rfl) T.g__law_next T.F__law_next.kp T.b__law_next px0 (sa_cons (se_v 0) (sa_cons (se_int) (sa_nil))))) (sa_cons (se_call (ok__law_some T TB) (hr.mono (by decide)) (by rfl) T.g__law_some T.F__law_some.kp T.b__law_some px0 (sa_cons (se_v 0) (sa_cons (se_at (se_v 1) (se_int)) (sa_nil)))) (sa_nil)))))).sb)))
      (sss_cons (ss_set (i := 5) sc_law_model.nd rfl (Or.inl rfl) (se_tuple rfl (by rfl) T.n_tuple ((se_f (sf_lc (own := [("verb", 7)]) rfl sc_law_model.nd (si_rng1 (by rfl) T.n_range (sa_cons (se_at (se_v 1) (se_int)) (sa_nil))) (blkOk_by (own := [("verb", 7)]) (N := N_law_model) (sc := defScope s_law_model) (by decide +kernel)) (fun _ _ _ _ _ => sg_name (i := 7) sc_law_model.nd rfl (Or.inl rfl)) (fun _ _ _ _ _ => sts_nil) (fun _ _ _ _ _ => se_tuple rfl (by rfl) T.n_tuple ((se_f (sf_lc (own := [("turn", 6)]) rfl sc_law_model.nd (si_rng1 (by rfl) T.n_range (sa_cons (se_v 3) (sa_nil))) (blkOk_by (own := [("turn", 6)]) (by kernel_rfl!)) (fun _ _ _ _ _ => sg_name (i := 6) sc_law_model.nd rfl (Or.inl rfl)) (fun _ _ _ _ _ => sts_nil) (fun _ _ _ _ _ => se_call (ok__law_some T TB) (hr.mono (by decide)) (by rfl) T.g__law_some T.F__law_some.kp T.b__law_some px0 (sa_cons (se_v 0) (sa_cons (se_v 3) (sa_nil)))))).sb)))).sb)))
      (sss_one (ss_ret (se_tup (sa_cons (se_v 4) (sa_cons (se_v 5) (sa_cons (se_tuple rfl (by rfl) T.n_tuple ((se_f (sf_lc (own := [("verb", 7)]) rfl sc_law_model.nd (si_rng1 (by rfl) T.n_range (sa_cons (se_at (se_v 1) (se_int)) (sa_nil))) (blkOk_by (own := [("verb", 7)]) (N := N_law_model) (sc := defScope s_law_model) (by decide +kernel)) (fun _ _ _ _ _ => sg_name (i := 7) sc_law_model.nd rfl (Or.inl rfl)) (fun _ _ _ _ _ => sts_nil) (fun _ _ _ _ _ => se_call (ok__law_some T TB) (hr.mono (by decide)) (by rfl) T.g__law_some T.F__law_some.kp T.b__law_some px0 (sa_cons (se_v 0) (sa_cons (se_v 3) (sa_nil)))))).sb)) (sa_nil)))))))))
theorem ok__law_exchanged {N : En} {w : World} {P : Program} {mg : Str → Option Value} {base : Heap} (T : Txt N w mg) (TB : Tabs N T base) : FnOk P w N.K mg base CX0 1 T.f__law_exchanged T.d__law_exchanged ["model", "order"] (spOf N 2 F__law_exchanged) := by
  refine fn_sim (Ns := N_law_exchanged) (ps := ["model", "order"]) (b := B__law_exchanged) T.F__law_exchanged sc_law_exchanged fun cdv A outer s H E hr => ?_
  exact sss_cons (ss_asg (se_v 0) (sg_tup rfl rfl (sgs_cons (sg_name (i := 2) sc_law_exchanged.nd rfl (Or.inr rfl)) (sgs_cons (sg_name (i := 3) sc_law_exchanged.nd rfl (Or.inl rfl)) (sgs_cons (sg_name (i := 4) sc_law_exchanged.nd rfl (Or.inl rfl)) (sgs_nil))))))
      (sss_cons (ss_set (i := 5) sc_law_exchanged.nd rfl (Or.inr rfl) (se_newD))
      (sss_cons (ss_for PassesOwn.never rfl (si_rng1 (by rfl) T.n_range (sa_cons (se_len rfl (by rfl) T.n_len (sb_v 1)) (sa_nil))) (sg_name (i := 6) sc_law_exchanged.nd rfl (Or.inl rfl)) (sss_one (ss_setD (se_v 5) (se_at (se_v 1) (se_v 6)) (se_v 6) hr.units)))
      (sss_cons (ss_own (i := 7) sc_law_exchanged.nd rfl (Or.inl rfl) (sf_lst (sa_nil)))
      (sss_cons (ss_for PassesOwn.never rfl (si_seq rfl (se_v 3)) (sg_name (i := 8) sc_law_exchanged.nd rfl (Or.inr rfl)) (sss_one (ss_app (i := 7) (pe_var rfl (by first | exact Or.inl rfl | exact Or.inr (Or.inl rfl) | exact Or.inr (Or.inr rfl)) (by decide) (by decide)) (se_tuple rfl (by rfl) T.n_tuple ((se_f (sf_lc (own := [("at", 6)]) rfl sc_law_exchanged.nd (si_seq rfl (se_v 1)) (blkOk_by (own := [("at", 6)]) (N := N_law_exchanged) (sc := defScope s_law_exchanged) (by decide +kernel)) (fun _ _ _ _ _ => sg_name (i := 6) sc_law_exchanged.nd rfl (Or.inl rfl)) (fun _ _ _ _ _ => sts_nil) (fun _ _ _ _ _ => se_tuple rfl (by rfl) T.n_tuple ((se_sorted rfl (by rfl) T.n_sorted ((se_f (sf_lc (own := [("other", 9)]) rfl sc_law_exchanged.nd (si_seq rfl (se_at (se_v 8) (se_v 6))) (blkOk_by (own := [("other", 9)]) (by kernel_rfl!)) (fun _ _ _ _ _ => sg_name (i := 9) sc_law_exchanged.nd rfl (Or.inl rfl)) (fun _ _ _ _ _ => sts_nil) (fun _ _ _ _ _ => se_ixD (se_v 5) (se_v 9) hr.units))).sb)).sb)))).sb)))))
      (sss_one (ss_ret (se_tup (sa_cons (se_tuple rfl (by rfl) T.n_tuple ((se_f (sf_lc (own := [("at", 6)]) rfl sc_law_exchanged.nd (si_seq rfl (se_v 1)) (blkOk_by (own := [("at", 6)]) (N := N_law_exchanged) (sc := defScope s_law_exchanged) (by decide +kernel)) (fun _ _ _ _ _ => sg_name (i := 6) sc_law_exchanged.nd rfl (Or.inl rfl)) (fun _ _ _ _ _ => sts_nil) (fun _ _ _ _ _ => se_at (se_v 2) (se_v 6)))).sb)) (sa_cons (se_tuple rfl (by rfl) T.n_tuple (sb_v 7)) (sa_cons (se_tuple rfl (by rfl) T.n_tuple ((se_f (sf_lc (own := [("row", 8)]) rfl sc_law_exchanged.nd (si_seq rfl (se_v 4)) (blkOk_by (own := [("row", 8)]) (N := N_law_exchanged) (sc := defScope s_law_exchanged) (by decide +kernel)) (fun _ _ _ _ _ => sg_name (i := 8) sc_law_exchanged.nd rfl (Or.inl rfl)) (fun _ _ _ _ _ => sts_nil) (fun _ _ _ _ _ => se_tuple rfl (by rfl) T.n_tuple ((se_sorted rfl (by rfl) T.n_sorted ((se_f (sf_lc (own := [("at", 6)]) rfl sc_law_exchanged.nd (si_seq rfl (se_v 8)) (blkOk_by (own := [("at", 6)]) (by kernel_rfl!)) (fun _ _ _ _ _ => sg_name (i := 6) sc_law_exchanged.nd rfl (Or.inl rfl)) (fun _ _ _ _ _ => sts_nil) (fun _ _ _ _ _ => se_ixD (se_v 5) (se_v 6) hr.units))).sb)).sb)))).sb)) (sa_nil)))))))))))
theorem ok__law_parted {N : En} {w : World} {P : Program} {mg : Str → Option Value} {base : Heap} (T : Txt N w mg) (TB : Tabs N T base) : FnOk P w N.K mg base CX0 1 T.f__law_parted T.d__law_parted ["model", "at"] (spOf N 2 F__law_parted) := by
  refine fn_sim (Ns := N_law_parted) (ps := ["model", "at"]) (b := B__law_parted) T.F__law_parted sc_law_parted fun cdv A outer s H E hr => ?_
  exact sss_cons (ss_asg (se_v 0) (sg_tup rfl rfl (sgs_cons (sg_name (i := 2) sc_law_parted.nd rfl (Or.inl rfl)) (sgs_cons (sg_name (i := 3) sc_law_parted.nd rfl (Or.inl rfl)) (sgs_cons (sg_name (i := 4) sc_law_parted.nd rfl (Or.inl rfl)) (sgs_nil))))))
      (sss_cons (ss_set (i := 5) sc_law_parted.nd rfl (Or.inr rfl) (se_len rfl (by rfl) T.n_len (sb_v 2)))
      (sss_cons (ss_asg (se_at (se_v 2) (se_v 1)) (sg_tup rfl rfl (sgs_cons (sg_name (i := 6) sc_law_parted.nd rfl (Or.inl rfl)) (sgs_cons (sg_name (i := 7) sc_law_parted.nd rfl (Or.inl rfl)) (sgs_nil)))))
      (sss_cons (ss_own (i := 8) sc_law_parted.nd rfl (Or.inl rfl) (sf_lst (sa_nil)))
      (sss_cons (ss_for PassesOwn.never rfl (si_seq rfl (se_v 3)) (sg_name (i := 9) sc_law_parted.nd rfl (Or.inl rfl)) (sss_cons (ss_setLc (i := 10) (own := [("one", 11)]) rfl sc_law_parted.nd rfl rfl (sw_true rfl rfl rfl (by decide +kernel)) (si_seq rfl (se_v 9)) (blkOk_by (own := [("one", 11)]) (N := N_law_parted) (sc := defScope s_law_parted) (by decide +kernel)) (fun _ _ _ _ _ => sg_name (i := 11) sc_law_parted.nd rfl (Or.inl rfl)) (fun _ _ _ _ _ => sts_nil) (fun _ _ _ _ _ => se_add (se_v 11) ((se_mulT (se_tup (sa_cons (se_v 5) (sa_nil))) ((se_int1 (by rfl) T.n_int ((se_in (u65 hr) (se_v 1) (sb_v 11)).sb)).sb)).sb)))
      (sss_one (ss_app (i := 8) (pe_var rfl (by first | exact Or.inl rfl | exact Or.inr (Or.inl rfl) | exact Or.inr (Or.inr rfl)) (by decide) (by decide)) (se_tuple rfl (by rfl) T.n_tuple ((se_add (se_v 10) ((se_f (sf_lst (sa_cons (se_at (se_v 10) (se_v 1)) (sa_nil)))).sb)).sb))))))
      (sss_one (ss_ret (se_tup (sa_cons (se_add (se_add (se_add (se_sl rfl (se_v 2) (so_no) (so_ex (se_v 1))) ((se_tup (sa_cons (se_tup (sa_cons (se_sub (se_v 6) ((se_int).sb)) (sa_cons (se_v 7) (sa_nil)))) (sa_nil))).sb)) ((se_sl rfl (se_v 2) (so_ex (se_add (se_v 1) ((se_int).sb))) (so_no)).sb)) ((se_tup (sa_cons (se_tup (sa_cons (se_int) (sa_cons (se_v 7) (sa_nil)))) (sa_nil))).sb)) (sa_cons (se_tuple rfl (by rfl) T.n_tuple (sb_v 8)) (sa_cons (se_tuple rfl (by rfl) T.n_tuple ((se_f (sf_lc (own := [("row", 9)]) rfl sc_law_parted.nd (si_seq rfl (se_v 4)) (blkOk_by (own := [("row", 9)]) (N := N_law_parted) (sc := defScope s_law_parted) (by decide +kernel)) (fun _ _ _ _ _ => sg_name (i := 9) sc_law_parted.nd rfl (Or.inl rfl)) (fun _ _ _ _ _ => sts_nil) (fun _ _ _ _ _ => se_add (se_v 9) ((se_mulT (se_tup (sa_cons (se_v 5) (sa_nil))) ((se_int1 (by rfl) T.n_int ((se_in (u65 hr) (se_v 1) (sb_v 9)).sb)).sb)).sb)))).sb)) (sa_nil)))))))))))
theorem ok_law {N : En} {w : World} {P : Program} {mg : Str → Option Value} {base : Heap} (T : Txt N w mg) (TB : Tabs N T base) {f : Addr} {fd : FuncData} (F : Fun N.K "law" "law" slaw f fd) : FnOk P w N.K mg base CX0 12 f fd ["script"] (spOf N 1 F_law) := by
  refine fn_sim (Ns := Nlaw) (ps := ["script"]) (b := B_law) F sclaw fun cdv A outer s H E hr => ?_
  exact sss_cons (ss_set (i := 1) sclaw.nd rfl (Or.inr rfl) (se_call (ok__law_stream T TB) (hr.mono (by decide)) (by rfl) T.g__law_stream T.F__law_stream.kp T.b__law_stream px0 (sa_cons (se_v 0) (sa_nil))))
      (sss_cons (ss_set (i := 2) sclaw.nd rfl (Or.inl rfl) (se_call (ok__law_signature T TB) (hr.mono (by decide)) (by rfl) T.g__law_signature T.F__law_signature.kp T.b__law_signature px0 (sa_cons (se_v 1) (sa_nil))))
      (sss_cons (ss_set (i := 3) sclaw.nd rfl (Or.inr rfl) (se_call (ok__law_model T TB) (hr.mono (by decide)) (by rfl) T.g__law_model T.F__law_model.kp T.b__law_model px0 (sa_cons (se_v 1) (sa_cons (se_v 2) (sa_cons (se_int) (sa_nil))))))
      (sss_cons (ss_set (i := 4) sclaw.nd rfl (Or.inl rfl) (se_len rfl (by rfl) T.n_len ((se_at (se_v 3) (se_int)).sb)))
      (sss_cons (ss_own (i := 5) sclaw.nd rfl (Or.inr rfl) (sf_listRg rfl (by rfl) T.n_list (by rfl) T.n_range (se_v 4)))
      (sss_cons (ss_setLc (i := 6) (own := [("turn", 14)]) rfl sclaw.nd rfl rfl (sw_true rfl rfl rfl (by decide +kernel)) (si_rng1 (by rfl) T.n_range (sa_cons (se_v 4) (sa_nil))) (blkOk_by (own := [("turn", 14)]) (N := Nlaw) (sc := defScope slaw) (by decide +kernel)) (fun _ _ _ _ _ => sg_name (i := 14) sclaw.nd rfl (Or.inl rfl)) (fun _ _ _ _ _ => sts_nil) (fun _ _ _ _ _ => se_pop (i := 5) (pe_var rfl (by first | exact Or.inl rfl | exact Or.inr (Or.inl rfl) | exact Or.inr (Or.inr rfl)) (by decide) (by decide)) (se_call (ok__law_next T TB) (hr.mono (by decide)) (by rfl) T.g__law_next T.F__law_next.kp T.b__law_next px0 (sa_cons (se_v 1) (sa_cons (se_len rfl (by rfl) T.n_len (sb_v 5)) (sa_nil))))))
      (sss_cons (ss_own (i := 7) sclaw.nd rfl (Or.inl rfl) (sf_lst (sa_cons (se_call (ok__law_exchanged T TB) (hr.mono (by decide)) (by rfl) T.g__law_exchanged T.F__law_exchanged.kp T.b__law_exchanged px0 (sa_cons (se_v 3) (sa_cons (se_v 6) (sa_nil)))) (sa_nil))))
      (sss_cons (ss_setLc (i := 8) (own := [("at", 15)]) rfl sclaw.nd rfl rfl (sw_true rfl rfl rfl (by decide +kernel)) (si_rng1 (by rfl) T.n_range (sa_cons (se_v 4) (sa_nil))) (blkOk_by (own := [("at", 15)]) (N := Nlaw) (sc := defScope slaw) (by decide +kernel)) (fun _ _ _ _ _ => sg_name (i := 15) sclaw.nd rfl (Or.inl rfl)) (fun _ _ _ _ _ => sts_one (st_gt (se_at (se_at (se_at (se_v 3) (se_int)) (se_v 15)) (se_int)) ((se_int).sb))) (fun _ _ _ _ _ => se_v 15))
      (sss_cons (ss_if (st_tru rfl (sb_v 8)) (sss_one (ss_app (i := 7) (pe_var rfl (by first | exact Or.inl rfl | exact Or.inr (Or.inl rfl) | exact Or.inr (Or.inr rfl)) (by decide) (by decide)) (se_call (ok__law_parted T TB) (hr.mono (by decide)) (by rfl) T.g__law_parted T.F__law_parted.kp T.b__law_parted px0 (sa_cons (se_v 3) (sa_cons (se_at (se_v 8) (se_call (ok__law_next T TB) (hr.mono (by decide)) (by rfl) T.g__law_next T.F__law_next.kp T.b__law_next px0 (sa_cons (se_v 1) (sa_cons (se_len rfl (by rfl) T.n_len (sb_v 8)) (sa_nil))))) (sa_nil)))))) (sss_nil))
      (sss_cons (ss_set (i := 9) sclaw.nd rfl (Or.inl rfl) (se_call (ok__law_every T TB) (hr.mono (by decide)) (by rfl) T.g__law_every T.F__law_every.kp T.b__law_every px0 (sa_cons (se_v 2) (sa_nil))))
      (sss_cons (ss_for PassesOwn.never rfl (si_seq rfl (se_v 7)) (sg_name (i := 10) sclaw.nd rfl (Or.inr rfl)) (sss_cons (ss_if (sw_pt (sw_or (st_notB (se_call (ok_agree T TB) (hr.mono (by decide)) (by rfl) T.g_agree T.F_agree.kp T.b_agree px0 (sa_cons (se_v 2) (sa_cons (se_v 3) (sa_cons (se_v 10) (sa_nil))))) ((se_bl).sb)) (sw_or1 (st_notN (se_call (ok_told_sentence T TB) (hr.mono (by decide)) (by rfl) T.g_told_sentence T.F_told_sentence.kp T.b_told_sentence px0 (sa_cons (se_v 2) (sa_cons (se_v 10) (sa_cons (se_v 3) (sa_nil))))) ((se_non).sb))))) (sss_one (ss_ret (se_bl))) (sss_nil))
      (sss_one (ss_if (st_not (st_tru rfl ((se_all rfl rfl (by rfl) T.n_all ((se_f (sf_lc (own := [("sentence", 11)]) rfl sclaw.nd (si_seq rfl (se_v 9)) (blkOk_by (own := [("sentence", 11)]) (N := Nlaw) (sc := defScope slaw) (by decide +kernel)) (fun _ _ _ _ _ => sg_name (i := 11) sclaw.nd rfl (Or.inl rfl)) (fun _ _ _ _ _ => sts_nil) (fun _ _ _ _ _ => se_eq hr.units (se_call (ok__law_holds T TB) (hr.mono (by decide)) (by rfl) T.g__law_holds T.F__law_holds.kp T.b__law_holds px0 (sa_cons (se_v 3) (sa_cons (se_v 11) (sa_nil)))) ((se_call (ok__law_holds T TB) (hr.mono (by decide)) (by rfl) T.g__law_holds T.F__law_holds.kp T.b__law_holds px0 (sa_cons (se_v 10) (sa_cons (se_v 11) (sa_nil)))).sb)))).sb)).sb))) (sss_one (ss_ret (se_bl))) (sss_nil)))))
      (sss_cons (ss_set (i := 12) sclaw.nd rfl (Or.inl rfl) (se_call (ok_union T TB) (hr.mono (by decide)) (by rfl) T.g_union T.F_union.kp T.b_union px0 (sa_cons (se_v 2) (sa_cons (se_v 3) (sa_cons (se_v 3) (sa_nil))))))
      (sss_cons (ss_for PassesOwn.never rfl (si_seq rfl (se_v 9)) (sg_name (i := 11) sclaw.nd rfl (Or.inl rfl)) (sss_cons (ss_set (i := 13) sclaw.nd rfl (Or.inl rfl) (se_and (se_eq hr.units (se_at (se_v 11) (se_int)) ((se_str 6).sb)) (se_one (se_eq hr.units (se_isB (se_at (se_v 11) (se_int)) ((se_bl).sb)) ((se_eq hr.units (se_at (se_v 11) (se_int)) ((se_str 0).sb)).sb)))))
      (sss_one (ss_if (sw_pt (sw_and (st_not (st_tru rfl (sb_v 13))) (sw_and1 (st_ne hr.units (se_call (ok__law_holds T TB) (hr.mono (by decide)) (by rfl) T.g__law_holds T.F__law_holds.kp T.b__law_holds px0 (sa_cons (se_v 3) (sa_cons (se_v 11) (sa_nil)))) ((se_call (ok__law_holds T TB) (hr.mono (by decide)) (by rfl) T.g__law_holds T.F__law_holds.kp T.b__law_holds px0 (sa_cons (se_v 12) (sa_cons (se_v 11) (sa_nil)))).sb))))) (sss_one (ss_ret (se_bl))) (sss_nil)))))
      (sss_one (ss_ret (se_bl)))))))))))))))
/-! ## the law's stream -/
structure Strm where
  ns : List Int
  a : Int
  b : Int
  ha : 0 ≤ a
  hb : 0 ≤ b
def Strm.c (s : Strm) : Cell := .lst [.lst (s.ns.map D.int), .int s.a, .int s.b]
def Strm.raw (s : Strm) : Int := if s.b < s.ns.length then (if s.ns.getD s.b.toNat 0 < 0 then -(s.ns.getD s.b.toNat 0) else s.ns.getD s.b.toNat 0) else 7 + s.b
def mix1 (c k : Int) : Int := (c * 48271 + k * 69621 + 11) % 2147483647
def mix (c k : Int) : Int := if c < 1000000000000000000 then (mix1 c k * 16807 + 13) % 2147483647 * 65537 + mix1 c k else c
def Strm.val (s : Strm) : Int := if s.a = 0 then mix s.raw s.b else s.a
theorem raw_pos (s : Strm) : 0 ≤ s.raw := by
  have := s.hb
  unfold Strm.raw
  split
  · split <;> omega
  · omega
theorem val_pos (s : Strm) : 0 ≤ s.val := by
  have h := raw_pos s
  have h2 := s.ha
  unfold Strm.val mix mix1
  split
  · split
    · omega
    · exact h
  · exact h2
def Strm.nxt (s : Strm) (m : Int) (hm : 0 ≤ m) : Strm := ⟨s.ns, s.val / m, if s.a = 0 then s.b + 1 else s.b, Int.ediv_nonneg (val_pos s) hm, by have := s.hb; split <;> omega⟩
theorem atI_int {l : List D} {i : Int} (h : 0 ≤ i) : atI l i = l[i.toNat]? := by
  have := atI_nat (l := l) (i := i.toNat)
  rwa [Int.toNat_of_nonneg h] at this
theorem next_eq (s : Strm) (m : Int) (h : 0 < m) (h' : m < 1073741824) : F__law_next [.cell 0, .int m] [s.c] = .ok (.int (s.val % m)) ⟨[], [(s.nxt m (Int.le_of_lt h)).c]⟩ := by
  have hb := s.hb
  by_cases h0 : s.a = 0
  · by_cases h1 : s.b < s.ns.length
    · obtain ⟨x, e, hr⟩ : ∃ x, s.ns[s.b.toNat]? = some x ∧ s.raw = if x < 0 then -x else x := by
        have : s.b.toNat < s.ns.length := by omega
        refine ⟨s.ns[s.b.toNat], List.getElem?_eq_getElem this, ?_⟩
        unfold Strm.raw
        rw [if_pos h1]
        simp [List.getD, this]
      by_cases h2 : s.raw < 1000000000000000000
      · simp [F__law_next, B__law_next, Strm.c, Strm.nxt, Strm.val, h0, h1, atI_int hb, e, setAt, ixN, h, h', mix, mix1, ← hr, h2]
      · simp [F__law_next, B__law_next, Strm.c, Strm.nxt, Strm.val, h0, h1, atI_int hb, e, setAt, ixN, h, h', mix, mix1, ← hr, h2]
    · have hr : s.raw = 7 + s.b := by
        unfold Strm.raw
        rw [if_neg h1]
      by_cases h2 : s.raw < 1000000000000000000
      · simp [F__law_next, B__law_next, Strm.c, Strm.nxt, Strm.val, h0, h1, setAt, ixN, h, h', mix, mix1, ← hr, h2]
      · simp [F__law_next, B__law_next, Strm.c, Strm.nxt, Strm.val, h0, h1, setAt, ixN, h, h', mix, mix1, ← hr, h2]
  · skip
    simp [F__law_next, B__law_next, Strm.c, Strm.nxt, Strm.val, h0, setAt, ixN, h, h']
theorem s_next (s : Strm) (m : Int) (h : 0 < m) (h' : m < 1073741824) : ∃ x s', F__law_next [.cell 0, .int m] [s.c] = .ok (.int x) ⟨[], [Strm.c s']⟩ ∧ 0 ≤ x ∧ x < m :=
  ⟨_, _, next_eq s m h h', Int.emod_nonneg _ (by omega), Int.emod_lt_of_pos _ h⟩
theorem s_stream (ns : List Int) : ∃ s : Strm, F__law_stream [.scr ns] [] = .ok (.cell 0) ⟨[], [s.c]⟩ := by
  refine ⟨⟨ns, 0, 0, by omega, by omega⟩, ?_⟩
  simp [F__law_stream, B__law_stream, Strm.c]
/-! ## signatures and sentences -/
/-- a signature -/
structure Sig where
  n : Int
  v : Int
  hn : 1 ≤ n
  hn4 : n ≤ 4
  hv : 0 ≤ v
  hv2 : v ≤ 2
def Sig.d (g : Sig) : D := .tup [.int g.n, .int g.v]
inductive Sen where
  | nn (w : Nat) (x y : Int)
  | vb (q : Nat) (x : Int) (does : Bool) (v : Int) (by' : Bool) (p : Nat) (y : Int)
  | se (q : Nat) (x : Int) (does : Bool) (v : Int)
def Sen.d : Sen → D
  | .nn w x y => .tup [.str w, .int x, .int y]
  | .vb q x does v by' p y => .tup [.str 6, .str q, .int x, .bl does, .int v, .bl by', .str p, .int y]
  | .se q x does v => .tup [.str 7, .str q, .int x, .bl does, .int v]
def isN (g : Sig) (x : Int) : Prop := 0 ≤ x ∧ x < g.n
def isV (g : Sig) (x : Int) : Prop := 0 ≤ x ∧ x < g.v
def Sen.ok (g : Sig) : Sen → Prop
  | .nn w x y => w < 6 ∧ isN g x ∧ isN g y
  | .vb q x _ v _ p y => q < 2 ∧ isN g x ∧ isV g v ∧ p < 2 ∧ isN g y
  | .se q x _ v => q < 2 ∧ isN g x ∧ isV g v
/-! ## the program's words on sentences -/
theorem p_int {x a b : Int} {cs : List Cell} (h1 : a ≤ x) (h2 : x ≤ b) : F_is_integer [.int x, .int a, .int b] cs = .ok (.bl true) ⟨[], cs⟩ := by
  simp [F_is_integer, B_is_integer, h1, h2]
theorem p_noun {g : Sig} {x : Int} {cs : List Cell} (h : isN g x) : F_is_noun [g.d, .int x] cs = .ok (.bl true) ⟨[], cs⟩ := by
  have e := p_int (cs := cs) h.1 (show x ≤ g.n - 1 from Int.le_sub_one_of_lt h.2)
  simp [F_is_noun, B_is_noun, Sig.d, e]
theorem p_signature {g : Sig} {cs : List Cell} : F_is_signature [g.d] cs = .ok (.bl true) ⟨[], cs⟩ := by
  have e := p_int (cs := cs) g.hn g.hn4
  have e2 := p_int (cs := cs) g.hv g.hv2
  simp [F_is_signature, B_is_signature, Sig.d, e, e2]
theorem p_check_signature {g : Sig} {cs : List Cell} : F_check_signature [g.d] cs = .ok .non ⟨[], cs⟩ := by
  simp [F_check_signature, B_check_signature, p_signature]
theorem w6 {w : Nat} (h : w < 6) : w = 0 ∨ w = 1 ∨ w = 2 ∨ w = 3 ∨ w = 4 ∨ w = 5 := by omega
theorem w2 {w : Nat} (h : w < 2) : w = 0 ∨ w = 1 := by omega
def opp : Nat → Nat
  | 0 => 2
  | 1 => 3
  | 2 => 0
  | 3 => 1
  | 4 => 5
  | _ => 4
def oq : Nat → Nat
  | 0 => 1
  | _ => 0
def Sen.neg : Sen → Sen
  | .nn w x y => .nn (opp w) x y
  | .vb q x d v b p y => .vb (oq q) x (!d) v b (oq p) y
  | .se q x d v => .se (oq q) x (!d) v
def Sen.turn : Sen → Option Sen
  | .nn w x y => if w = 3 ∨ w = 1 then some (.nn w y x) else none
  | .vb q x d v b p y => if q = p then some (.vb p y d v (!b) q x) else none
  | .se _ _ _ _ => none
def optD : Option Sen → D
  | none => .non
  | some z => z.d
theorem oq_lt {q : Nat} : oq q < 2 := by unfold oq; split <;> decide
theorem opp_lt {q : Nat} : opp q < 6 := by unfold opp; split <;> decide
theorem opp_opp {w : Nat} (h : w < 6) : opp (opp w) = w := by rcases w6 h with rfl | rfl | rfl | rfl | rfl | rfl <;> rfl
theorem oq_oq {w : Nat} (h : w < 2) : oq (oq w) = w := by rcases w2 h with rfl | rfl <;> rfl
theorem Sen.neg_ok {g : Sig} {z : Sen} (h : z.ok g) : z.neg.ok g := by
  cases z with
  | nn w x y => exact ⟨opp_lt, h.2.1, h.2.2⟩
  | vb q x d v b p y => exact ⟨oq_lt, h.2.1, h.2.2.1, oq_lt, h.2.2.2.2⟩
  | se q x d v => exact ⟨oq_lt, h.2.1, h.2.2⟩
theorem Sen.neg_neg {g : Sig} {z : Sen} (h : z.ok g) : z.neg.neg = z := by
  cases z with
  | nn w x y => simp [Sen.neg, opp_opp h.1]
  | vb q x d v b p y => simp [Sen.neg, oq_oq h.1, oq_oq h.2.2.2.1]
  | se q x d v => simp [Sen.neg, oq_oq h.1]
theorem Sen.turn_ok {g : Sig} {z t : Sen} (h : z.ok g) (e : z.turn = some t) : t.ok g := by
  cases z with
  | nn w x y =>
    simp only [Sen.turn] at e
    split at e
    · cases e; exact ⟨h.1, h.2.2, h.2.1⟩
    · cases e
  | vb q x d v b p y =>
    simp only [Sen.turn] at e
    split at e
    · cases e; exact ⟨h.2.2.2.1, h.2.2.2.2, h.2.2.1, h.1, h.2.1⟩
    · cases e
  | se q x d v => cases e
theorem p_negated {g : Sig} {z : Sen} {cs : List Cell} (h : z.ok g) : F_negated [z.d] cs = .ok z.neg.d ⟨[], cs⟩ := by
  cases z with
  | nn w x y =>
    rcases w6 h.1 with rfl | rfl | rfl | rfl | rfl | rfl <;> simp [F_negated, B_negated, Sen.d, Sen.neg, opp]
  | vb q x d v b p y =>
    rcases w2 h.1 with rfl | rfl <;> rcases w2 h.2.2.2.1 with rfl | rfl <;> simp [F_negated, B_negated, Sen.d, Sen.neg, oq]
  | se q x d v =>
    rcases w2 h.1 with rfl | rfl <;> simp [F_negated, B_negated, Sen.d, Sen.neg, oq]
/-! ## told forms -/
def Sen.told (z : Sen) : Sen := match z with
  | .nn w x y => if (w = 3 ∨ w = 1) ∧ y < x then .nn w y x else .nn w x y
  | .vb q x d v b p y => if q = p ∧ b = true then .vb p y d v (!b) q x else .vb q x d v b p y
  | .se q x d v => .se q x d v
theorem Sen.told_ok {g : Sig} {z : Sen} (h : z.ok g) : z.told.ok g := by
  cases z with
  | nn w x y =>
    simp only [Sen.told]
    split
    · exact ⟨h.1, h.2.2, h.2.1⟩
    · exact h
  | vb q x d v b p y =>
    simp only [Sen.told]
    split
    · exact ⟨h.2.2.2.1, h.2.2.2.2, h.2.2.1, h.1, h.2.1⟩
    · exact h
  | se q x d v => exact h
theorem told_is {z : Sen} : z.told = z ∨ z.turn = some z.told := by
  cases z with
  | nn w x y =>
    simp only [Sen.told, Sen.turn]
    by_cases h1 : w = 3 ∨ w = 1
    · by_cases h2 : y < x
      · right; rw [if_pos h1, if_pos ⟨h1, h2⟩]
      · left; rw [if_neg fun z => h2 z.2]
    · left; rw [if_neg fun z => h1 z.1]
  | vb q x d v b p y =>
    simp only [Sen.told, Sen.turn]
    by_cases h1 : q = p
    · cases b with
      | true => right; rw [if_pos h1, if_pos ⟨h1, rfl⟩]
      | false => left; rw [if_neg fun z => nomatch z.2]
    · left; rw [if_neg fun z => h1 z.1]
  | se q x d v => exact .inl rfl
/-- equal sentences are equal data -/
theorem Sen.eqD_iff {g : Sig} {z t : Sen} (h : z.ok g) (h' : t.ok g) : eqD z.d t.d = true ↔ z = t := by
  cases z <;> cases t <;> simp [Sen.d, and_assoc]
theorem Sen.okD {g : Sig} {z : Sen} (h : z.ok g) : Z.okD 60 z.d = true ∧ Z.okD 59 z.d = true ∧ Z.okD 58 z.d = true ∧ Z.okD 57 z.d = true := by
  cases z with
  | nn w x y => have := h.1; simp [Sen.d]; omega
  | vb q x d v b p y => have := h.1; have := h.2.2.2.1; simp [Sen.d]; omega
  | se q x d v => have := h.1; simp [Sen.d]; omega
/-- of itself: always, never -/
def Sen.always : Sen → Bool
  | .nn w x y => (w == 0 || w == 4) && x == y
  | _ => false
def Sen.never : Sen → Bool
  | .nn w x y => (w == 2 || w == 5) && x == y
  | _ => false
def Sen.same (z t : Sen) : Bool := (z.always && t.always) || (z.never && t.never) || eqD z.told.d t.told.d
/-! ## models -/
def intT (l : List Int) : D := .tup (l.map D.int)
structure Mdl where
  rows : List (Int × List Int)
  verbs : List (List (List Int))
  selfs : List (List Int)
def rowD (r : Int × List Int) : D := .tup [.int r.1, intT r.2]
def relD (r : List (List Int)) : D := .tup (r.map intT)
def Mdl.d (m : Mdl) : D := .tup [.tup (m.rows.map rowD), .tup (m.verbs.map relD), .tup (m.selfs.map intT)]
structure Mdl.ok (g : Sig) (m : Mdl) : Prop where
  rows : ∀ r ∈ m.rows, 1 ≤ r.1 ∧ r.1 ≤ 3 ∧ ∀ x ∈ r.2, isN g x
  len : m.rows.length ≤ 12
  verbs : m.verbs.length = g.v.toNat
  rel : ∀ r ∈ m.verbs, r.length = m.rows.length ∧ ∀ l ∈ r, ∀ x ∈ l, 0 ≤ x ∧ x < m.rows.length
  selfs : m.selfs.length = g.v.toNat
  self : ∀ l ∈ m.selfs, ∀ x ∈ l, 0 ≤ x ∧ x < m.rows.length
/-- where the stream stands -/
def atS (cs : List Cell) : Prop := ∃ s : Strm, cs = [s.c]
abbrev Asc (l : List Int) : Prop := l.Pairwise (· < ·)
structure Mdl.gd (g : Sig) (m : Mdl) : Prop extends m.ok g where
  rasc : ∀ r ∈ m.rows, Asc r.2
  vasc : ∀ r ∈ m.verbs, ∀ l ∈ r, Asc l
  sasc : ∀ l ∈ m.selfs, Asc l
theorem rng_asc (n : Int) : (rngL 0 n).Pairwise fun a b => ∃ i j : Int, a = .int i ∧ b = .int j ∧ i < j := by
  unfold rngL
  rw [List.pairwise_map]
  exact List.pairwise_lt_range.imp fun {a b} h => ⟨_, _, rfl, rfl, by omega⟩
/-! ## what holds in a model -/
abbrev Pr := Int × Int
def prD (p : Pr) : D := .tup [.int p.1, .int p.2]
def Mdl.size (m : Mdl) (k : Nat) : Int := (m.rows.getD k (0, [])).1
def Mdl.seg (m : Mdl) (k : Nat) : List Pr := (List.range (m.size k).toNat).map fun (j : Nat) => ((k : Int), (j : Int))
def Mdl.people (m : Mdl) : List Pr := (List.range m.rows.length).flatMap m.seg
def Mdl.nouns (m : Mdl) (i : Int) : List Int := (m.rows.getD i.toNat (0, [])).2
def Mdl.has (m : Mdl) (x : Int) (p : Pr) : Bool := decide (x ∈ m.nouns p.1)
def Mdl.wth (m : Mdl) (x : Int) : List Pr := m.people.filter (m.has x)
def Mdl.does (m : Mdl) (v : Int) (a b : Pr) : Bool := if a = b then decide (a.1 ∈ m.selfs.getD v.toNat []) else decide (b.1 ∈ (m.verbs.getD v.toNat []).getD a.1.toNat [])
def Sen.tells (m : Mdl) (z : Sen) (a : Pr) : Bool := match z with
  | .nn _ _ _ => false
  | .se _ _ d v => m.does v a a == d
  | .vb _ _ d v b p y => if p = 0 then (m.wth y).all (fun o => (if b = true then m.does v o a else m.does v a o) == d) else (m.wth y).any (fun o => (if b = true then m.does v o a else m.does v a o) == d)
def Sen.holds (m : Mdl) (z : Sen) : Bool := match z with
  | .nn w x y =>
    let a := m.wth x
    let b := m.wth y
    let c := a.filter fun p => decide (p ∈ b)
    if w = 0 then c.length == a.length else if w = 2 then decide (c.length < a.length) else if w = 3 then c.isEmpty else if w = 1 then !c.isEmpty else if w = 4 then decide (b.length ≤ a.length) else decide (a.length < b.length)
  | .se q x d v => if q = 0 then (m.wth x).all (Sen.tells m (.se q x d v)) else (m.wth x).any (Sen.tells m (.se q x d v))
  | .vb q x d v b p y => if q = 0 then (m.wth x).all (Sen.tells m (.vb q x d v b p y)) else (m.wth x).any (Sen.tells m (.vb q x d v b p y))
def inM (m : Mdl) (p : Pr) : Prop := 0 ≤ p.1 ∧ p.1 < m.rows.length
theorem mem_people {m : Mdl} {p : Pr} (h : p ∈ m.people) : inM m p := by
  obtain ⟨k, hk, hp⟩ := List.mem_flatMap.mp h
  obtain ⟨j, hj, rfl⟩ := List.mem_map.mp hp
  have := List.mem_range.mp hk
  exact ⟨Int.natCast_nonneg _, by simp; omega⟩
theorem mem_with {m : Mdl} {x : Int} {p : Pr} (h : p ∈ m.wth x) : inM m p := mem_people (List.mem_filter.mp h).1
theorem seg_le {m : Mdl} {g : Sig} (h : m.ok g) (k : Nat) : (m.seg k).length ≤ 3 := by
  unfold Mdl.seg Mdl.size
  rw [List.length_map, List.length_range]
  by_cases hk : k < m.rows.length
  · have := h.rows _ (List.getElem_mem hk)
    simp [List.getD, hk]
    omega
  · simp [List.getD, Nat.le_of_not_lt hk]
theorem flat_le {α β : Type} {f : α → List β} {B : Nat} : ∀ {l : List α}, (∀ a ∈ l, (f a).length ≤ B) → (l.flatMap f).length ≤ l.length * B
  | [], _ => Nat.zero_le _
  | a :: l, h => by
    have := flat_le (l := l) fun x hx => h x (List.mem_cons_of_mem _ hx)
    have h2 := h a List.mem_cons_self
    rw [List.flatMap_cons, List.length_append, List.length_cons, Nat.succ_mul]
    omega
theorem people_le {m : Mdl} {g : Sig} (h : m.ok g) : m.people.length ≤ 36 := by
  have := flat_le (f := m.seg) (l := List.range m.rows.length) fun k _ => seg_le h k
  have h2 := h.len
  unfold Mdl.people
  rw [List.length_range] at this
  omega
theorem with_le {m : Mdl} {g : Sig} (h : m.ok g) (x : Int) : (m.wth x).length ≤ 36 := Nat.le_trans (List.length_filter_le _ _) (people_le h)
def segD (m : Mdl) : D → List D
  | .int i => (m.seg i.toNat).map prD
  | _ => []
theorem people_seg (m : Mdl) : (rngL 0 m.rows.length).flatMap (segD m) = m.people.map prD := by
  unfold rngL Mdl.people
  rw [List.map_flatMap, List.flatMap_map]
  simp [segD]
@[simp] theorem segD_int (m : Mdl) (k : Int) : segD m (.int k) = (m.seg k.toNat).map prD := rfl
theorem inD_ints {x : Int} : ∀ {l : List Int}, inD (.int x) (l.map D.int) = decide (x ∈ l)
  | [] => rfl
  | y :: l => by
    rw [List.map_cons, inD_cons, inD_ints, eq_int_int]
    by_cases h : y = x
    · simp [h]
    · have h' : ¬ x = y := fun z => h z.symm
      simp [h, h']
theorem okDs_ints {k : Nat} : ∀ {l : List Int}, okDs k (l.map D.int) = true
  | [] => okDs_nil k
  | y :: l => by rw [List.map_cons, okDs_cons, okD_int, okDs_ints]; rfl
theorem pr_eq {a b : Pr} : (prD a = prD b) ↔ a = b := by
  unfold prD
  constructor
  · intro h
    injection h with h
    injection h with h1 h2
    injection h2 with h2 h3
    injection h1 with h1
    injection h2 with h2
    exact Prod.ext h1 h2
  · rintro rfl; rfl
theorem okD_pr (k : Nat) (p : Pr) : okD (k + 1) (prD p) = true := by
  unfold prD
  rw [okD]
  simp
theorem okDs_prs (k : Nat) : ∀ {l : List Pr}, okDs (k + 1) (l.map prD) = true
  | [] => okDs_nil _
  | y :: l => by rw [List.map_cons, okDs_cons, okD_pr, okDs_prs]; rfl
theorem eqD_pr {a b : Pr} : eqD (prD a) (prD b) = decide (a = b) := by
  unfold prD
  by_cases h : a = b
  · subst h; simp
  · have : ¬ (a.1 = b.1 ∧ a.2 = b.2) := fun z => h (Prod.ext z.1 z.2)
    simp [h]
    exact fun h1 h2 => this ⟨h1, h2⟩
theorem okD60_pr (p : Pr) : okD 60 (prD p) = true := okD_pr 59 p
theorem okDs60_prs (l : List Pr) : okDs 60 (l.map prD) = true := okDs_prs 59
theorem okDs59_prs (l : List Pr) : okDs 59 (l.map prD) = true := okDs_prs 58
theorem cast_beq (a b : Nat) : ((a : Int) == (b : Int)) = (a == b) := by
  rw [Bool.eq_iff_iff]
  simp only [beq_iff_eq]
  omega
theorem inD_prs {p : Pr} : ∀ {l : List Pr}, inD (prD p) (l.map prD) = decide (p ∈ l)
  | [] => rfl
  | y :: l => by
    rw [List.map_cons, inD_cons, inD_prs, eqD_pr]
    by_cases h : y = p
    · simp [h]
    · have h' : ¬ p = y := fun z => h z.symm
      simp [h, h']
theorem eqDs_empty (l : List D) : eqDs l [] = l.isEmpty := by cases l <;> simp
/-! ## what negation and turning do in a model -/
theorem does_not (m : Mdl) {v : Int} {a b : Pr} {d : Bool} : (m.does v a b == !d) = !(m.does v a b == d) := by
  cases m.does v a b <;> cases d <;> rfl
theorem tells_neg {g : Sig} {m : Mdl} {z : Sen} (hz : z.ok g) (hn : ∀ w x y, z ≠ .nn w x y) (a : Pr) : z.neg.tells m a = !z.tells m a := by
  cases z with
  | nn w x y => exact absurd rfl (hn w x y)
  | se q x d v => exact does_not m
  | vb q x d v b p y =>
    have h : ∀ o, ((if b = true then m.does v o a else m.does v a o) == !d) = !((if b = true then m.does v o a else m.does v a o) == d) := fun o => by
      cases (if b = true then m.does v o a else m.does v a o) <;> cases d <;> rfl
    rcases w2 hz.2.2.2.1 with rfl | rfl
    · simp only [Sen.neg, Sen.tells, oq, h, if_true]
      rw [if_neg (by decide), List.not_all_eq_any_not]
    · simp only [Sen.neg, Sen.tells, oq, h, if_true]
      rw [if_neg (by decide), List.not_any_eq_all_not]
theorem holds_neg {g : Sig} {m : Mdl} {z : Sen} (hz : z.ok g) : z.neg.holds m = !z.holds m := by
  cases z with
  | nn w x y =>
    have hl : ((m.wth x).filter fun p => decide (p ∈ m.wth y)).length ≤ (m.wth x).length := List.length_filter_le _ _
    rcases w6 hz.1 with rfl | rfl | rfl | rfl | rfl | rfl <;> simp only [Sen.neg, opp, Sen.holds] <;> simp
    all_goals first | (rw [Bool.eq_iff_iff]; done) | (rw [Bool.eq_iff_iff]; simp; done) | (rw [Bool.eq_iff_iff]; simp; omega)
  | vb q x d v b p y =>
    have h := tells_neg (m := m) hz (fun _ _ _ z => nomatch z)
    simp only [Sen.neg] at h
    rcases w2 hz.1 with rfl | rfl
    · simp only [Sen.neg, Sen.holds, oq, if_true] at h ⊢
      rw [if_neg (by decide), List.not_all_eq_any_not]
      congr 1
      funext a
      exact h a
    · simp only [Sen.neg, Sen.holds, oq, if_true] at h ⊢
      rw [if_neg (by decide), List.not_any_eq_all_not]
      congr 1
      funext a
      exact h a
  | se q x d v =>
    have h := tells_neg (m := m) hz (fun _ _ _ z => nomatch z)
    simp only [Sen.neg] at h
    rcases w2 hz.1 with rfl | rfl
    · simp only [Sen.neg, Sen.holds, oq, if_true] at h ⊢
      rw [if_neg (by decide), List.not_all_eq_any_not]
      congr 1
      funext a
      exact h a
    · simp only [Sen.neg, Sen.holds, oq, if_true] at h ⊢
      rw [if_neg (by decide), List.not_any_eq_all_not]
      congr 1
      funext a
      exact h a
theorem all_swap {α : Type} (A B : List α) (f : α → α → Bool) : (A.all fun a => B.all fun b => f a b) = B.all fun b => A.all fun a => f a b := by
  rw [Bool.eq_iff_iff]
  simp only [List.all_eq_true]
  exact ⟨fun h b hb a ha => h a ha b hb, fun h a ha b hb => h b hb a ha⟩
theorem any_swap {α : Type} (A B : List α) (f : α → α → Bool) : (A.any fun a => B.any fun b => f a b) = B.any fun b => A.any fun a => f a b := by
  rw [Bool.eq_iff_iff]
  simp only [List.any_eq_true]
  exact ⟨fun ⟨a, ha, b, hb, h⟩ => ⟨b, hb, a, ha, h⟩, fun ⟨a, ha, b, hb, h⟩ => ⟨b, hb, a, ha, h⟩⟩
theorem inter_empty (A B : List Pr) : (A.filter fun p => decide (p ∈ B)).isEmpty = (B.filter fun p => decide (p ∈ A)).isEmpty := by
  rw [Bool.eq_iff_iff]
  simp only [List.isEmpty_iff, List.filter_eq_nil_iff, decide_eq_true_eq]
  exact ⟨fun h a ha hb => h a hb ha, fun h a ha hb => h a hb ha⟩
theorem holds_turn {g : Sig} {m : Mdl} {z t : Sen} (hz : z.ok g) (e : z.turn = some t) : t.holds m = z.holds m := by
  cases z with
  | nn w x y =>
    simp only [Sen.turn] at e
    split at e
    case isFalse => cases e
    rename_i hw
    cases e
    rcases hw with rfl | rfl
    · simp only [Sen.holds]
      exact inter_empty _ _
    · simp only [Sen.holds]
      exact congrArg not (inter_empty _ _)
  | vb q x d v b p y =>
    simp only [Sen.turn] at e
    split at e
    case isFalse => cases e
    rename_i hw
    cases e
    subst hw
    have hf : ∀ a o : Pr, ((if (!b) = true then m.does v o a else m.does v a o) == d) = ((if b = true then m.does v a o else m.does v o a) == d) := fun a o => by cases b <;> rfl
    have ea : ∀ (x y : Int) (b : Bool), Sen.tells m (.vb 0 x d v b 0 y) = fun a => (m.wth y).all fun o => (if b = true then m.does v o a else m.does v a o) == d := fun x y b => funext fun a => by simp [Sen.tells]
    have ey : ∀ (x y : Int) (b : Bool), Sen.tells m (.vb 1 x d v b 1 y) = fun a => (m.wth y).any fun o => (if b = true then m.does v o a else m.does v a o) == d := fun x y b => funext fun a => by simp [Sen.tells]
    rcases w2 hz.1 with rfl | rfl
    · show (m.wth y).all _ = (m.wth x).all _
      rw [ea, ea, all_swap]
      simp only [hf]
    · show (m.wth y).any _ = (m.wth x).any _
      rw [ey, ey, any_swap]
      simp only [hf]
  | se q x d v => cases e
theorem holds_told {g : Sig} {m : Mdl} {z : Sen} (hz : z.ok g) : z.told.holds m = z.holds m := by
  rcases told_is (z := z) with h | h
  · rw [h]
  · exact holds_turn hz h
theorem holds_always {m : Mdl} {z : Sen} (h : z.always = true) : z.holds m = true := by
  cases z with
  | nn w x y =>
    simp only [Sen.always, Bool.and_eq_true, Bool.or_eq_true, beq_iff_eq] at h
    obtain ⟨h1, rfl⟩ := h
    have e : (m.wth x).filter (fun p => decide (p ∈ m.wth x)) = m.wth x := List.filter_eq_self.mpr fun p hp => decide_eq_true hp
    rcases h1 with rfl | rfl
    · simp [Sen.holds, e]
    · simp [Sen.holds]
  | vb q x d v b p y => cases h
  | se q x d v => cases h
theorem neg_never {g : Sig} {z : Sen} (hz : z.ok g) : z.neg.always = z.never ∧ z.neg.never = z.always := by
  cases z with
  | nn w x y => rcases w6 hz.1 with rfl | rfl | rfl | rfl | rfl | rfl <;> simp [Sen.neg, Sen.always, Sen.never, opp]
  | vb q x d v b p y => exact ⟨rfl, rfl⟩
  | se q x d v => exact ⟨rfl, rfl⟩
theorem holds_never {g : Sig} {m : Mdl} {z : Sen} (hz : z.ok g) (h : z.never = true) : z.holds m = false := by
  have := holds_always (m := m) (z := z.neg) (by rw [(neg_never hz).1, h])
  rw [holds_neg hz] at this
  cases hh : z.holds m
  · rfl
  · rw [hh] at this; cases this
theorem same_holds {g : Sig} {m : Mdl} {z t : Sen} (hz : z.ok g) (ht : t.ok g) (h : z.same t = true) : t.holds m = z.holds m := by
  unfold Sen.same at h
  simp only [Bool.or_eq_true, Bool.and_eq_true] at h
  rcases h with (⟨h1, h2⟩ | ⟨h1, h2⟩) | h
  · rw [holds_always h1, holds_always h2]
  · rw [holds_never hz h1, holds_never ht h2]
  · rw [Sen.eqD_iff (Sen.told_ok hz) (Sen.told_ok ht)] at h
    rw [← holds_told ht, ← h, holds_told hz]
theorem told_neg {g : Sig} {z : Sen} (hz : z.ok g) : z.neg.told = z.told.neg := by
  cases z with
  | nn w x y =>
    rcases w6 hz.1 with rfl | rfl | rfl | rfl | rfl | rfl <;> simp [Sen.neg, Sen.told, opp]
    all_goals split <;> simp [opp]
  | vb q x d v b p y =>
    rcases w2 hz.1 with rfl | rfl <;> rcases w2 hz.2.2.2.1 with rfl | rfl <;> cases b <;> simp [Sen.neg, Sen.told, oq]
  | se q x d v => rfl
theorem bool_eq {a b : Bool} (h : a = true ↔ b = true) : a = b := by cases a <;> cases b <;> simp_all
theorem same_neg {g : Sig} {z t : Sen} (hz : z.ok g) (ht : t.ok g) : z.neg.same t.neg = z.same t := by
  have e : eqD z.neg.told.d t.neg.told.d = eqD z.told.d t.told.d := bool_eq (by
    rw [Sen.eqD_iff (Sen.told_ok (Sen.neg_ok hz)) (Sen.told_ok (Sen.neg_ok ht)), Sen.eqD_iff (Sen.told_ok hz) (Sen.told_ok ht), told_neg hz, told_neg ht]
    constructor
    · intro h
      rw [← Sen.neg_neg (Sen.told_ok hz), h, Sen.neg_neg (Sen.told_ok ht)]
    · rintro h; rw [h])
  unfold Sen.same
  rw [e, (neg_never hz).1, (neg_never hz).2, (neg_never ht).1, (neg_never ht).2]
  cases z.always <;> cases t.always <;> cases z.never <;> cases t.never <;> rfl
theorem same_symm {g : Sig} {z t : Sen} (hz : z.ok g) (ht : t.ok g) : t.same z = z.same t := by
  have e : eqD t.told.d z.told.d = eqD z.told.d t.told.d := bool_eq (by
    rw [Sen.eqD_iff (Sen.told_ok hz) (Sen.told_ok ht), Sen.eqD_iff (Sen.told_ok ht) (Sen.told_ok hz)]
    exact eq_comm)
  unfold Sen.same
  rw [e]
  cases z.always <;> cases t.always <;> cases z.never <;> cases t.never <;> rfl
/-! ## the program's own word on models -/
theorem asc_len : ∀ {l : List Int} {lo n : Int}, Asc l → (∀ x ∈ l, lo ≤ x ∧ x < n) → l.length ≤ (n - lo).toNat
  | [], _, _, _, _ => Nat.zero_le _
  | x :: l, lo, n, h, hb => by
    obtain ⟨h1, h2⟩ := List.pairwise_cons.mp h
    have hx := hb x List.mem_cons_self
    have := asc_len (l := l) (lo := x + 1) (n := n) h2 fun y hy => ⟨h1 y hy, (hb y (List.mem_cons_of_mem _ hy)).2⟩
    simp only [List.length_cons]
    omega
theorem p_asc {l : List Int} {cs : List Cell} (h : Asc l) (hl : l.length ≤ 1000) : F_is_ascending [intT l] cs = .ok (.bl true) ⟨[], cs⟩ := by
  have e := gen_ok (brk := false) (vs := [1]) (fi := iRn1 (aCons (eOp subD (eC1 lenD (eVB 0)) (eC (.int 1))) (aNil))) (g := gN 1) (f := eOp ltD (eOp ixD (eV 0) (eV 1)) (eOp ixD (eV 0) (eOp addD (eV 1) (eC (.int 1))))) (tb := fun _ => true) (ds := rngL 0 ((l.length : Int) - 1))
    (s := ⟨[.sv (intT l), .un], cs⟩) (s0 := ⟨[.sv (intT l), .un], cs⟩) (by simp [intT]; omega) (fun d hd => by
      obtain ⟨i, h0, h1, rfl⟩ := rng_mem.mp hd
      have hi : i.toNat < l.length := by omega
      have hi1 : (i + 1).toNat < l.length := by omega
      have hlt : l[i.toNat] < l[(i + 1).toNat] := (List.pairwise_iff_getElem.mp h) _ _ hi hi1 (by omega)
      have hj : 0 ≤ i + 1 := by omega
      exact ⟨⟨[.sv (intT l), .sv (.int i)], cs⟩, by simp, by simp [intT, atI_int h0, atI_int hj, hi, hi1, hlt], by simp⟩) (by simp)
  simp [F_is_ascending, B_is_ascending, e]
theorem all_true (l : List D) : (l.all fun _ => true) = true := by simp
theorem p_are_groups {n : Int} {l : List Int} {cs : List Cell} (hn : n ≤ 1000) (h : Asc l) (hb : ∀ x ∈ l, 0 ≤ x ∧ x < n) : F_are_groups [.int n, intT l] cs = .ok (.bl true) ⟨[], cs⟩ := by
  have hl := asc_len h hb
  have e := gen_ok (brk := false) (vs := [2]) (fi := iSeq (eV 1)) (g := gN 2) (f := eCall (F_is_integer) (aCons (eV 2) (aCons (eC (.int 0)) (aCons (eOp subD (eV 0) (eC (.int 1))) (aNil))))) (tb := fun _ => true) (ds := l.map D.int)
    (s := ⟨[.sv (.int n), .sv (intT l), .un], cs⟩) (s0 := ⟨[.sv (.int n), .sv (intT l), .un], cs⟩) (by simp [intT]) (fun d hd => by
      obtain ⟨x, hx, rfl⟩ := List.mem_map.mp hd
      have := p_int (cs := cs) (hb x hx).1 (show x ≤ n - 1 by have := (hb x hx).2; omega)
      exact ⟨⟨[.sv (.int n), .sv (intT l), .sv (.int x)], cs⟩, by simp, by simp [this], by simp⟩) (by simp)
  have e2 := p_asc (cs := cs) h (by omega)
  simp only [Bool.false_eq_true, if_false, all_true] at e
  have it : isTy .tuple (intT l) = some true := rfl
  simp [F_are_groups, B_are_groups, e, e2, it]
theorem p_group {g : Sig} {r : Int × List Int} {cs : List Cell} (h1 : 1 ≤ r.1) (h2 : r.1 ≤ 1000) (hb : ∀ x ∈ r.2, isN g x) (ha : Asc r.2) : F__is_group [g.d, rowD r] cs = .ok (.bl true) ⟨[], cs⟩ := by
  have gn4 := g.hn4
  have hl := asc_len (lo := 0) (n := g.n) ha hb
  have e := gen_ok (brk := false) (vs := [4]) (fi := iSeq (eV 3)) (g := gN 4) (f := eCall (F_is_noun) (aCons (eV 0) (aCons (eV 4) (aNil)))) (tb := fun _ => true) (ds := r.2.map D.int)
    (s := ⟨[.sv g.d, .sv (rowD r), .sv (.int r.1), .sv (intT r.2), .un], cs⟩) (s0 := ⟨[.sv g.d, .sv (rowD r), .sv (.int r.1), .sv (intT r.2), .un], cs⟩) (by simp [intT]) (fun d hd => by
      obtain ⟨x, hx, rfl⟩ := List.mem_map.mp hd
      have := p_noun (cs := cs) (hb x hx)
      exact ⟨⟨[.sv g.d, .sv (rowD r), .sv (.int r.1), .sv (intT r.2), .sv (.int x)], cs⟩, by simp, by simp [this], by simp⟩) (by simp)
  have e2 := p_asc (cs := cs) ha (by omega)
  have e3 := p_int (cs := cs) h1 h2
  simp only [Bool.false_eq_true, if_false, all_true] at e
  simp only [rowD] at e
  have it : isTy .tuple (intT r.2) = some true := rfl
  simp [F__is_group, B__is_group, rowD, e, e2, e3, it]
theorem p_rows {n : Int} {r : List (List Int)} {cs : List Cell} (hn : n ≤ 1000) (hl : (r.length : Int) = n) (h : ∀ l ∈ r, Asc l ∧ ∀ x ∈ l, 0 ≤ x ∧ x < n) : F__are_rows [.int n, relD r] cs = .ok (.bl true) ⟨[], cs⟩ := by
  have e := gen_ok (brk := false) (vs := [2]) (fi := iSeq (eV 1)) (g := gN 2) (f := eCall (F_are_groups) (aCons (eV 0) (aCons (eV 2) (aNil)))) (tb := fun _ => true) (ds := r.map intT)
    (s := ⟨[.sv (.int n), .sv (relD r), .un], cs⟩) (s0 := ⟨[.sv (.int n), .sv (relD r), .un], cs⟩) (by simp [relD]) (fun d hd => by
      obtain ⟨l, hx, rfl⟩ := List.mem_map.mp hd
      have := p_are_groups (cs := cs) hn (h l hx).1 (h l hx).2
      exact ⟨⟨[.sv (.int n), .sv (relD r), .sv (intT l)], cs⟩, by simp, by simp [this], by simp⟩) (by simp)
  simp only [Bool.false_eq_true, if_false, all_true] at e
  simp only [relD] at e
  simp [F__are_rows, B__are_rows, relD, e, hl]
theorem p_model {g : Sig} {m : Mdl} {cs : List Cell} (h : m.gd g) : F_is_model [g.d, m.d] cs = .ok (.bl true) ⟨[], cs⟩ := by
  have hl := h.len
  have gv := g.hv
  have e1 := fun (a3 a4 a5 : Slot) => gen_ok (brk := false) (vs := [6]) (fi := iSeq (eV 2)) (g := gN 6) (f := eCall (F__is_group) (aCons (eV 0) (aCons (eV 6) (aNil)))) (tb := fun _ => true) (ds := m.rows.map rowD)
    (s := ⟨[.sv g.d, .sv m.d, .sv (.tup (m.rows.map rowD)), a3, a4, a5, .un, .un, .un], cs⟩) (s0 := ⟨[.sv g.d, .sv m.d, .sv (.tup (m.rows.map rowD)), a3, a4, a5, .un, .un, .un], cs⟩) (by simp) (fun d hd => by
      obtain ⟨r, hr, rfl⟩ := List.mem_map.mp hd
      have hk := h.rows r hr
      have := p_group (cs := cs) hk.1 (by omega) hk.2.2 (h.rasc r hr)
      exact ⟨⟨[.sv g.d, .sv m.d, .sv (.tup (m.rows.map rowD)), a3, a4, a5, .sv (rowD r), .un, .un], cs⟩, by simp, by simp [this], by simp⟩) (by simp)
  have e2 := fun (a3 a4 : Slot) => gen_ok (brk := false) (vs := [7]) (fi := iSeq (eV 3)) (g := gN 7) (f := eCall (F__are_rows) (aCons (eV 5) (aCons (eV 7) (aNil)))) (tb := fun _ => true) (ds := m.verbs.map relD)
    (s := ⟨[.sv g.d, .sv m.d, a3, .sv (.tup (m.verbs.map relD)), a4, .sv (.int m.rows.length), .un, .un, .un], cs⟩) (s0 := ⟨[.sv g.d, .sv m.d, a3, .sv (.tup (m.verbs.map relD)), a4, .sv (.int m.rows.length), .un, .un, .un], cs⟩) (by simp) (fun d hd => by
      obtain ⟨r, hr, rfl⟩ := List.mem_map.mp hd
      have hk := h.rel r hr
      have := p_rows (cs := cs) (n := m.rows.length) (r := r) (by omega) (by omega) fun l hl => ⟨h.vasc r hr l hl, hk.2 l hl⟩
      exact ⟨⟨[.sv g.d, .sv m.d, a3, .sv (.tup (m.verbs.map relD)), a4, .sv (.int m.rows.length), .un, .sv (relD r), .un], cs⟩, by simp, by simp [this], by simp⟩) (by simp)
  have e3 := fun (a3 a4 : Slot) => gen_ok (brk := false) (vs := [8]) (fi := iSeq (eV 4)) (g := gN 8) (f := eCall (F_are_groups) (aCons (eV 5) (aCons (eV 8) (aNil)))) (tb := fun _ => true) (ds := m.selfs.map intT)
    (s := ⟨[.sv g.d, .sv m.d, a3, a4, .sv (.tup (m.selfs.map intT)), .sv (.int m.rows.length), .un, .un, .un], cs⟩) (s0 := ⟨[.sv g.d, .sv m.d, a3, a4, .sv (.tup (m.selfs.map intT)), .sv (.int m.rows.length), .un, .un, .un], cs⟩) (by simp) (fun d hd => by
      obtain ⟨l, hl', rfl⟩ := List.mem_map.mp hd
      have := p_are_groups (cs := cs) (n := m.rows.length) (by omega) (h.sasc l hl') (h.self l hl')
      exact ⟨⟨[.sv g.d, .sv m.d, a3, a4, .sv (.tup (m.selfs.map intT)), .sv (.int m.rows.length), .un, .un, .sv (intT l)], cs⟩, by simp, by simp [this], by simp⟩) (by simp)
  simp only [Bool.false_eq_true, if_false, all_true] at e1 e2 e3
  have o1 : F__has_one_for_each_verb [g.d, .tup (m.verbs.map relD)] cs = .ok (.bl true) ⟨[], cs⟩ := by
    have : (m.verbs.length : Int) = g.v := by rw [h.verbs]; omega
    simp [F__has_one_for_each_verb, B__has_one_for_each_verb, Sig.d, this]
  have o2 : F__has_one_for_each_verb [g.d, .tup (m.selfs.map intT)] cs = .ok (.bl true) ⟨[], cs⟩ := by
    have : (m.selfs.length : Int) = g.v := by rw [h.selfs]; omega
    simp [F__has_one_for_each_verb, B__has_one_for_each_verb, Sig.d, this]
  have l40 : ¬ (40 : Int) < m.rows.length := by omega
  simp only [Mdl.d] at e1 e2 e3
  simp [F_is_model, B_is_model, Mdl.d, e1, e2, e3, o1, o2, l40]
theorem p_check_model {g : Sig} {m : Mdl} {nm : D} {cs : List Cell} (h : m.gd g) : F_check_model [g.d, m.d, nm] cs = .ok .non ⟨[], cs⟩ := by
  simp [F_check_model, B_check_model, p_model h]
/-! ## what groups show -/
def Mdl.vr (m : Mdl) (v : Int) : List (List Int) := m.verbs.getD v.toNat []
def Mdl.vrr (m : Mdl) (v a : Int) : List Int := (m.vr v).getD a.toNat []
def Mdl.sr (m : Mdl) (v : Int) : List Int := m.selfs.getD v.toNat []
def Mdl.rel (m : Mdl) (v a b : Int) : Bool := decide (b ∈ m.vrr v a)
def Mdl.slf (m : Mdl) (v a : Int) : Bool := decide (a ∈ m.sr v)
def Mdl.dseg (m : Mdl) (i v : Int) (b : Bool) (y o : Int) : List Bool :=
  if y ∈ m.nouns o then (if o ≠ i ∨ 1 < m.size o.toNat then [if b = true then m.rel v o i else m.rel v i o] else []) ++ (if o = i then [m.slf v i] else []) else []
def Mdl.deeds (m : Mdl) (i v : Int) (b : Bool) (y : Int) : List Bool := (List.range m.rows.length).flatMap fun (o : Nat) => m.dseg i v b y o
theorem rng_flat {α : Type} {n : Nat} {f : D → List α} {h : Nat → List α} (e : ∀ k : Nat, f (.int k) = h k) : (rngL 0 (n : Nat)).flatMap f = (List.range n).flatMap h := by
  unfold rngL
  rw [List.flatMap_map]
  simp [e]
theorem ints_in {x : Int} {l : List Int} : inD (.int x) (l.map D.int) = decide (x ∈ l) := inD_ints
theorem row_at {m : Mdl} {i : Int} (h0 : 0 ≤ i) (h1 : i < m.rows.length) : atI (m.rows.map rowD) i = some (.tup [.int (m.size i.toNat), intT (m.nouns i)]) := by
  have hk : i.toNat < m.rows.length := by omega
  simp [atI_int h0, hk, rowD, Mdl.size, Mdl.nouns, List.getD]
theorem verb_at {m : Mdl} {g : Sig} (h : m.ok g) {v : Int} (hv : isV g v) : atI (m.verbs.map relD) v = some (relD (m.vr v)) := by
  have hk : v.toNat < m.verbs.length := by rw [h.verbs]; have := hv.1; have := hv.2; omega
  simp [atI_int hv.1, hk, List.getD, Mdl.vr]
theorem self_at {m : Mdl} {g : Sig} (h : m.ok g) {v : Int} (hv : isV g v) : atI (m.selfs.map intT) v = some (intT (m.sr v)) := by
  have hk : v.toNat < m.selfs.length := by rw [h.selfs]; have := hv.1; have := hv.2; omega
  simp [atI_int hv.1, hk, List.getD, Mdl.sr]
theorem rel_at {m : Mdl} {g : Sig} (h : m.ok g) {v i : Int} (hv : isV g v) (h0 : 0 ≤ i) (h1 : i < m.rows.length) : ixD (relD (m.vr v)) (.int i) = some (intT (m.vrr v i)) := by
  have hk : v.toNat < m.verbs.length := by rw [h.verbs]; have := hv.1; have := hv.2; omega
  have hr := (h.rel _ (List.getElem_mem hk)).1
  have hi : i.toNat < (m.verbs[v.toNat]).length := by omega
  simp [relD, atI_int h0, List.getD, hk, hi, Mdl.vr, Mdl.vrr]
theorem in_intT {x : Int} {l : List Int} : inOp (.int x) (intT l) = some (.bl (decide (x ∈ l))) := by
  simp [intT, inD_ints, okDs_ints]
theorem nin_intT {x : Int} {l : List Int} : notInOp (.int x) (intT l) = some (.bl (!decide (x ∈ l))) := by
  simp [intT, inD_ints, okDs_ints]
theorem p_deeds {g : Sig} {m : Mdl} {i v y : Int} {b : Bool} {cs : List Cell} (h : m.ok g) (hv : isV g v) (i0 : 0 ≤ i) (i1 : i < m.rows.length) : F__deeds [m.d, .int i, .int v, .bl b, .int y] cs = .ok (.lst ((m.deeds i v b y).map D.bl)) ⟨[], cs⟩ := by
  have hl := h.len
  have seg2 : ∀ o, (m.dseg i v b y o).length ≤ 2 := by
    intro o
    unfold Mdl.dseg
    by_cases hy : y ∈ m.nouns o <;> by_cases h1 : o = i <;> by_cases h2 : 1 < m.size o.toNat <;> simp [hy, h1, h2]
    all_goals (subst h1; simp [hy, h2])
  obtain ⟨s', e, x1, x2, x3, rfl⟩ := forL_acc (seg := fun d => match d with | .int o => (m.dseg i v b y o).map D.bl | _ => []) (g := gN 9) (b := (sCons (sAsg (gT 2 (gCons (gN 10) (gCons (gN 11) (gNil)))) (eOp ixD (eV 5) (eV 9)))
  (sIf (tV (eOp inOp (eV 4) (eVB 11))) (sCons (sIf (tO (tV (eOp neOp (eV 9) (eVB 1))) (tV (eOp gtD (eV 10) (eC (.int 1))))) (sApp 8 (eIf (tU (eVB 3)) (eOp inOp (eV 1) (eOp ixD (eOp ixD (eV 6) (eV 2)) (eV 9))) (eOp inOp (eV 9) (eOp ixD (eOp ixD (eV 6) (eV 2)) (eV 1))))) (sNil))
  (sIf (tV (eOp eqOp (eV 9) (eVB 1))) (sApp 8 (eOp inOp (eV 1) (eOp ixD (eV 7) (eV 2)))) (sNil))) (sNil)))) (ds := rngL 0 (m.rows.length : Nat)) (acc := [])
    (s := ⟨[.sv m.d, .sv (.int i), .sv (.int v), .sv (.bl b), .sv (.int y), .sv (.tup (m.rows.map rowD)), .sv (.tup (m.verbs.map relD)), .sv (.tup (m.selfs.map intT)), .own [], .un, .un, .un], cs⟩)
    (I := fun acc s => ∃ x1 x2 x3, s = ⟨[.sv m.d, .sv (.int i), .sv (.int v), .sv (.bl b), .sv (.int y), .sv (.tup (m.rows.map rowD)), .sv (.tup (m.verbs.map relD)), .sv (.tup (m.selfs.map intT)), .own acc, x1, x2, x3], cs⟩) ⟨_, _, _, rfl⟩ (by
      have := flat_le (f := fun d => match d with | .int o => (m.dseg i v b y o).map D.bl | _ => []) (l := rngL 0 (m.rows.length : Nat)) (B := 2) fun d hd => by
        obtain ⟨k, _, _, rfl⟩ := rng_mem.mp hd
        rw [List.length_map]
        exact seg2 k
      rw [rng_len] at this
      simp only [List.length_nil]
      omega) (fun d hd acc s hs hlen => by
      obtain ⟨x1, x2, x3, rfl⟩ := hs
      obtain ⟨o, h0, h1, rfl⟩ := rng_mem.mp hd
      have e1 := row_at h0 h1
      have e2 := verb_at h hv
      have e3 := self_at h hv
      have e4 := rel_at h hv i0 i1
      have e5 := rel_at h hv h0 h1
      have hlen : acc.length + ((m.dseg i v b y o).map D.bl).length ≤ 100000 := hlen
      refine ⟨⟨[.sv m.d, .sv (.int i), .sv (.int v), .sv (.bl b), .sv (.int y), .sv (.tup (m.rows.map rowD)), .sv (.tup (m.verbs.map relD)), .sv (.tup (m.selfs.map intT)), .own (acc ++ (m.dseg i v b y o).map D.bl), .sv (.int o), .sv (.int (m.size o.toNat)), .sv (intT (m.nouns o))], cs⟩, ?_, _, _, _, rfl⟩
      by_cases hy : y ∈ m.nouns o
      · by_cases ho : o = i
        · subst ho
          by_cases hz : 1 < m.size o.toNat
          · have hd : m.dseg o v b y o = [if b = true then m.rel v o o else m.rel v o o, m.slf v o] := by unfold Mdl.dseg; simp [hy, hz]
            rw [hd] at hlen ⊢
            simp at hlen
            have l1 : acc.length < 100000 := by omega
            have l2 : acc.length + 1 < 100000 := by omega
            cases b <;> simp [e1, e2, e3, e4, hy, hz, in_intT, Mdl.rel, Mdl.slf, l1, l2]
          · have hd : m.dseg o v b y o = [m.slf v o] := by unfold Mdl.dseg; simp [hy, hz]
            rw [hd] at hlen ⊢
            simp at hlen
            have l1 : acc.length < 100000 := by omega
            simp [e1, e3, hy, hz, in_intT, Mdl.slf, l1]
        · have hd : m.dseg i v b y o = [if b = true then m.rel v o i else m.rel v i o] := by unfold Mdl.dseg; simp [hy, ho]
          rw [hd] at hlen ⊢
          simp at hlen
          have l1 : acc.length < 100000 := by omega
          cases b <;> simp [e1, e2, e4, e5, hy, ho, in_intT, Mdl.rel, l1]
      · have hd : m.dseg i v b y o = [] := by unfold Mdl.dseg; simp [hy]
        rw [hd]
        simp [e1, hy, in_intT])
  have e6 : ((rngL 0 (m.rows.length : Nat)).flatMap fun d => match d with | .int o => (m.dseg i v b y o).map D.bl | _ => []) = (m.deeds i v b y).map D.bl := by
    rw [rng_flat (h := fun k => (m.dseg i v b y k).map D.bl) fun k => rfl]
    unfold Mdl.deeds
    rw [List.map_flatMap]
  rw [List.nil_append, e6] at e
  have m1 : (m.rows.length : Int) < 4611686018427387904 := by omega
  have m2 : -4611686018427387904 ≤ (m.rows.length : Int) := by omega
  simp only [Mdl.d] at e
  simp [F__deeds, B__deeds, Mdl.d, e, m1, m2]
def Sen.said (m : Mdl) (i : Int) : Sen → Bool
  | .nn w x y => decide (x ∈ m.nouns i) && (decide (y ∈ m.nouns i) == (w == 1))
  | .se _ x d v => decide (x ∈ m.nouns i) && (m.slf v i == d)
  | .vb _ x d v b p y => decide (x ∈ m.nouns i) && (if p = 1 then decide (d ∈ m.deeds i v b y) else (m.deeds i v b y).all (· == d))
theorem in_bools {d : Bool} : ∀ {l : List Bool}, inD (.bl d) (l.map D.bl) = decide (d ∈ l)
  | [] => rfl
  | y :: l => by
    rw [List.map_cons, inD_cons, in_bools]
    cases y <;> cases d <;> simp
theorem okDs_bools {k : Nat} : ∀ {l : List Bool}, okDs k (l.map D.bl) = true
  | [] => okDs_nil k
  | y :: l => by rw [List.map_cons, okDs_cons, okDs_bools]; cases k <;> rfl
theorem p_said {g : Sig} {m : Mdl} {z : Sen} {i : Int} {cs : List Cell} (h : m.ok g) (hz : z.ok g) (i0 : 0 ≤ i) (i1 : i < m.rows.length) : F_is_as_said [m.d, z.d, .int i] cs = .ok (.bl (z.said m i)) ⟨[], cs⟩ := by
  have e1 := row_at i0 i1
  cases z with
  | nn w x y =>
    have hw := hz.1
    have hw70 : w < 70 := by omega
    by_cases hx : x ∈ m.nouns i
    · rcases w6 hw with rfl | rfl | rfl | rfl | rfl | rfl <;> simp [F_is_as_said, B_is_as_said, Mdl.d, Sen.d, e1, hx, in_intT, Sen.said]
    · rcases w6 hw with rfl | rfl | rfl | rfl | rfl | rfl <;> simp [F_is_as_said, B_is_as_said, Mdl.d, Sen.d, e1, hx, in_intT, Sen.said]
  | se q x d v =>
    have e3 := self_at h hz.2.2
    have hq := hz.1
    by_cases hx : x ∈ m.nouns i
    · rcases w2 hq with rfl | rfl <;> simp [F_is_as_said, B_is_as_said, Mdl.d, Sen.d, e1, e3, hx, in_intT, Sen.said, Mdl.slf]
    · rcases w2 hq with rfl | rfl <;> simp [F_is_as_said, B_is_as_said, Mdl.d, Sen.d, e1, e3, hx, in_intT, Sen.said, Mdl.slf]
  | vb q x d v b p y =>
    have ed := p_deeds (y := y) (b := b) (cs := cs) h hz.2.2.1 i0 i1
    have hq := hz.1
    have hp := hz.2.2.2.1
    by_cases hx : x ∈ m.nouns i
    · have eg := fun (a4 a5 a6 a9 : Slot) => gen_ok (brk := false) (vs := [15]) (fi := iSeq (eV 12)) (g := gN 15) (f := eOp eqOp (eV 15) (eVB 14)) (tb := fun y => match y with | .bl k => k == d | _ => false) (ds := (m.deeds i v b y).map D.bl)
        (s := ⟨[.sv m.d, .sv (Sen.vb q x d v b p y).d, .sv (.int i), .sv (.tup (m.rows.map rowD)), a4, a5, a6, .sv (.int x), .sv (.int v), .sv (.bl b), a9, .sv (.int y), .sv (.lst ((m.deeds i v b y).map D.bl)), .un, .sv (.bl d), .un], cs⟩)
        (s0 := ⟨[.sv m.d, .sv (Sen.vb q x d v b p y).d, .sv (.int i), .sv (.tup (m.rows.map rowD)), a4, a5, a6, .sv (.int x), .sv (.int v), .sv (.bl b), a9, .sv (.int y), .sv (.lst ((m.deeds i v b y).map D.bl)), .un, .sv (.bl d), .un], cs⟩) (by simp) (fun e he => by
          obtain ⟨k, hk, rfl⟩ := List.mem_map.mp he
          exact ⟨⟨[.sv m.d, .sv (Sen.vb q x d v b p y).d, .sv (.int i), .sv (.tup (m.rows.map rowD)), a4, a5, a6, .sv (.int x), .sv (.int v), .sv (.bl b), a9, .sv (.int y), .sv (.lst ((m.deeds i v b y).map D.bl)), .un, .sv (.bl d), .sv (.bl k)], cs⟩, by simp, by simp, by simp⟩) (by simp)
      simp only [Bool.false_eq_true, if_false, List.all_map, Mdl.d, Sen.d] at eg
      simp only [Mdl.d] at ed
      rcases w2 hp with rfl | rfl
      · simp [F_is_as_said, B_is_as_said, Mdl.d, Sen.d, e1, hx, in_intT, nin_intT, Sen.said, ed, eg, Function.comp_def]
      · simp [F_is_as_said, B_is_as_said, Mdl.d, Sen.d, e1, hx, in_intT, nin_intT, Sen.said, ed, in_bools, okDs_bools]
    · simp [F_is_as_said, B_is_as_said, Mdl.d, Sen.d, e1, hx, in_intT, nin_intT, Sen.said]
/-! ## groups and individuals -/
theorem mem_ppl {m : Mdl} {p : Pr} : p ∈ m.people ↔ ∃ k j : Nat, k < m.rows.length ∧ j < (m.size k).toNat ∧ p = ((k : Int), (j : Int)) := by
  unfold Mdl.people Mdl.seg
  rw [List.mem_flatMap]
  constructor
  · rintro ⟨k, hk, hp⟩
    obtain ⟨j, hj, rfl⟩ := List.mem_map.mp hp
    exact ⟨k, j, List.mem_range.mp hk, List.mem_range.mp hj, rfl⟩
  · rintro ⟨k, j, hk, hj, rfl⟩
    exact ⟨k, List.mem_range.mpr hk, List.mem_map.mpr ⟨j, List.mem_range.mpr hj, rfl⟩⟩
theorem size_pos {g : Sig} {m : Mdl} (h : m.ok g) {k : Nat} (hk : k < m.rows.length) : 1 ≤ m.size k ∧ m.size k ≤ 3 := by
  have := h.rows _ (List.getElem_mem hk)
  simp [Mdl.size, List.getD, hk]
  omega
theorem mem_wth {m : Mdl} {x : Int} {p : Pr} : p ∈ m.wth x ↔ p ∈ m.people ∧ x ∈ m.nouns p.1 := by
  unfold Mdl.wth Mdl.has
  rw [List.mem_filter, decide_eq_true_eq]
theorem does_self {m : Mdl} {v : Int} {a : Pr} : m.does v a a = m.slf v a.1 := by
  unfold Mdl.does Mdl.slf Mdl.sr
  rw [if_pos rfl]
theorem does_other {m : Mdl} {v : Int} {a b : Pr} (h : a ≠ b) : m.does v a b = m.rel v a.1 b.1 := by
  unfold Mdl.does Mdl.rel Mdl.vrr Mdl.vr
  rw [if_neg h]
theorem mem_deeds {m : Mdl} {i v y : Int} {b t : Bool} : t ∈ m.deeds i v b y ↔ ∃ o : Nat, o < m.rows.length ∧ y ∈ m.nouns o ∧ ((((o : Int) ≠ i ∨ 1 < m.size o) ∧ t = (if b = true then m.rel v o i else m.rel v i o)) ∨ ((o : Int) = i ∧ t = m.slf v i)) := by
  unfold Mdl.deeds
  rw [List.mem_flatMap]
  constructor
  · rintro ⟨o, ho, ht⟩
    refine ⟨o, List.mem_range.mp ho, ?_⟩
    unfold Mdl.dseg at ht
    split at ht
    · rename_i hy
      refine ⟨hy, ?_⟩
      rcases List.mem_append.mp ht with ht | ht
      · split at ht
        · rename_i hc
          rw [List.mem_singleton] at ht
          exact .inl ⟨by simpa using hc, ht⟩
        · cases ht
      · split at ht
        · rename_i hc
          rw [List.mem_singleton] at ht
          exact .inr ⟨hc, ht⟩
        · cases ht
    · cases ht
  · rintro ⟨o, ho, hy, h⟩
    refine ⟨o, List.mem_range.mpr ho, ?_⟩
    unfold Mdl.dseg
    rw [if_pos hy]
    rcases h with ⟨hc, ht⟩ | ⟨hc, ht⟩
    · refine List.mem_append_left _ ?_
      rw [if_pos (by simpa using hc), ht]
      exact List.mem_singleton_self _
    · refine List.mem_append_right _ ?_
      rw [if_pos hc, ht]
      exact List.mem_singleton_self _
theorem val_deeds {g : Sig} {m : Mdl} (h : m.ok g) {k j : Nat} (hk : k < m.rows.length) (hj : j < (m.size k).toNat) {v y : Int} {b t : Bool} :
    (∃ o ∈ m.wth y, (if b = true then m.does v o ((k : Int), (j : Int)) else m.does v ((k : Int), (j : Int)) o) = t) ↔ t ∈ m.deeds k v b y := by
  rw [mem_deeds]
  constructor
  · rintro ⟨o, ho, ht⟩
    obtain ⟨hp, hy⟩ := mem_wth.mp ho
    obtain ⟨k', j', hk', hj', rfl⟩ := mem_ppl.mp hp
    refine ⟨k', hk', hy, ?_⟩
    by_cases e : ((k' : Int), (j' : Int)) = ((k : Int), (j : Int))
    · have ek : (k' : Int) = k := (Prod.ext_iff.mp e).1
      rw [e] at ht
      simp only [does_self] at ht
      exact .inr ⟨ek, by rw [← ht]; split <;> rfl⟩
    · have e' : ((k : Int), (j : Int)) ≠ ((k' : Int), (j' : Int)) := fun z => e z.symm
      rw [does_other e, does_other e'] at ht
      refine .inl ⟨?_, ht.symm⟩
      by_cases ek : (k' : Int) = k
      · right
        have : k' = k := by omega
        subst this
        have : j' ≠ j := fun z => e (by rw [z])
        omega
      · exact .inl ek
  · rintro ⟨o, ho, hy, hc⟩
    have so := size_pos h ho
    rcases hc with ⟨hc, rfl⟩ | ⟨hc, rfl⟩
    · by_cases ek : (o : Int) = k
      · have eo : o = k := by omega
        subst eo
        have hz : 1 < m.size o := by
          rcases hc with hc | hc
          · exact absurd rfl hc
          · exact hc
        have : ∃ j' : Nat, j' < (m.size o).toNat ∧ j' ≠ j := by
          by_cases j0 : j = 0
          · exact ⟨1, by omega, by omega⟩
          · exact ⟨0, by omega, by omega⟩
        obtain ⟨j', hj', hne⟩ := this
        have e : ((o : Int), (j' : Int)) ≠ ((o : Int), (j : Int)) := fun z => hne (by have := (Prod.ext_iff.mp z).2; simp at this; omega)
        exact ⟨((o : Int), (j' : Int)), mem_wth.mpr ⟨mem_ppl.mpr ⟨o, j', ho, hj', rfl⟩, hy⟩, by rw [does_other e, does_other (Ne.symm e)]⟩
      · have e : ((o : Int), ((0 : Nat) : Int)) ≠ ((k : Int), (j : Int)) := fun z => ek (Prod.ext_iff.mp z).1
        exact ⟨((o : Int), ((0 : Nat) : Int)), mem_wth.mpr ⟨mem_ppl.mpr ⟨o, 0, ho, by omega, rfl⟩, hy⟩, by rw [does_other e, does_other (Ne.symm e)]⟩
    · have eo : o = k := by omega
      subst eo
      exact ⟨((o : Int), (j : Int)), mem_wth.mpr ⟨mem_ppl.mpr ⟨o, j, ho, hj, rfl⟩, hy⟩, by rw [does_self]; split <;> rfl⟩
theorem any_set {α : Type} {A : List α} {f : α → Bool} {B : List Bool} (h : ∀ t, (∃ a ∈ A, f a = t) ↔ t ∈ B) (d : Bool) : (A.any fun a => f a == d) = decide (d ∈ B) := by
  rw [Bool.eq_iff_iff, List.any_eq_true, decide_eq_true_eq, ← h d]
  simp
theorem all_set {α : Type} {A : List α} {f : α → Bool} {B : List Bool} (h : ∀ t, (∃ a ∈ A, f a = t) ↔ t ∈ B) (d : Bool) : (A.all fun a => f a == d) = B.all (· == d) := by
  rw [Bool.eq_iff_iff, List.all_eq_true, List.all_eq_true]
  constructor
  · intro hA t ht
    obtain ⟨a, ha, rfl⟩ := (h t).mpr ht
    exact hA a ha
  · intro hB a ha
    exact hB _ ((h _).mp ⟨a, ha, rfl⟩)
def Sen.sm : Sen → Bool
  | .nn w _ _ => w == 1 || w == 2
  | .se q _ _ _ => q == 1
  | .vb q _ _ _ _ _ _ => q == 1
theorem any_people {m : Mdl} {g : Sig} (h : m.ok g) {f : Pr → Bool} {s : Int → Bool} (e : ∀ k j : Nat, k < m.rows.length → j < (m.size k).toNat → f ((k : Int), (j : Int)) = s k) : m.people.any f = (List.range m.rows.length).any fun k => s k := by
  rw [Bool.eq_iff_iff, List.any_eq_true, List.any_eq_true]
  constructor
  · rintro ⟨p, hp, hf⟩
    obtain ⟨k, j, hk, hj, rfl⟩ := mem_ppl.mp hp
    exact ⟨k, List.mem_range.mpr hk, by rw [← e k j hk hj]; exact hf⟩
  · rintro ⟨k, hk, hs⟩
    have hk := List.mem_range.mp hk
    have := size_pos h hk
    exact ⟨((k : Int), ((0 : Nat) : Int)), mem_ppl.mpr ⟨k, 0, hk, by omega, rfl⟩, by rw [e k 0 hk (by omega)]; exact hs⟩
theorem any_wth {m : Mdl} {x : Int} {f : Pr → Bool} : (m.wth x).any f = m.people.any fun p => decide (x ∈ m.nouns p.1) && f p := by
  unfold Mdl.wth Mdl.has
  rw [List.any_filter]
theorem any_said {g : Sig} {m : Mdl} {z : Sen} (h : m.ok g) (hz : z.ok g) (hs : z.sm = true) : z.holds m = (List.range m.rows.length).any fun k => z.said m k := by
  cases z with
  | nn w x y =>
    simp only [Sen.sm, Bool.or_eq_true, beq_iff_eq] at hs
    rcases hs with rfl | rfl
    · have e : Sen.holds m (.nn 1 x y) = (m.wth x).any fun p => decide (p ∈ m.wth y) := by
        simp only [Sen.holds]
        rw [Bool.eq_iff_iff]
        simp
      rw [e, any_wth]
      refine any_people (s := fun i => Sen.said m i (.nn 1 x y)) h fun k j hk hj => ?_
      have : (((k : Int), (j : Int)) ∈ m.wth y) ↔ y ∈ m.nouns k := by rw [mem_wth]; exact ⟨fun z => z.2, fun z => ⟨mem_ppl.mpr ⟨k, j, hk, hj, rfl⟩, z⟩⟩
      simp [Sen.said, this]
    · have e : Sen.holds m (.nn 2 x y) = (m.wth x).any fun p => !decide (p ∈ m.wth y) := by
        simp only [Sen.holds]
        rw [Bool.eq_iff_iff]
        simp [List.length_filter_lt_length_iff_exists]
      rw [e, any_wth]
      refine any_people (s := fun i => Sen.said m i (.nn 2 x y)) h fun k j hk hj => ?_
      have : (((k : Int), (j : Int)) ∈ m.wth y) ↔ y ∈ m.nouns k := by rw [mem_wth]; exact ⟨fun z => z.2, fun z => ⟨mem_ppl.mpr ⟨k, j, hk, hj, rfl⟩, z⟩⟩
      simp [Sen.said, this]
  | se q x d v =>
    simp only [Sen.sm, beq_iff_eq] at hs
    subst hs
    have e : Sen.holds m (.se 1 x d v) = (m.wth x).any fun a => m.does v a a == d := rfl
    rw [e, any_wth]
    refine any_people (s := fun i => Sen.said m i (.se 1 x d v)) h fun k j hk hj => ?_
    simp [Sen.said, does_self]
  | vb q x d v b p y =>
    simp only [Sen.sm, beq_iff_eq] at hs
    subst hs
    have e : Sen.holds m (.vb 1 x d v b p y) = (m.wth x).any (Sen.tells m (.vb 1 x d v b p y)) := rfl
    rw [e, any_wth]
    refine any_people (s := fun i => Sen.said m i (.vb 1 x d v b p y)) h fun k j hk hj => ?_
    have vd := fun t => val_deeds (t := t) (v := v) (y := y) (b := b) h hk hj
    rcases w2 hz.2.2.2.1 with rfl | rfl
    · simp only [Sen.said, Sen.tells, if_true]
      rw [all_set vd d]
      simp
    · simp only [Sen.said, Sen.tells]
      rw [if_neg (by decide), any_set vd d]
      simp
theorem sum_ok {vs : List Nat} {fi : Is} {g : Tg} {t : Ts} {f : Ex} {ds : List D} {s s0 : S} {tb : D → Bool} {n : D → Int} (hi : fi s = .ok ds s0) (hb : ((ds.filter tb).map n).sum ≤ 1000000) (hn : ∀ d ∈ ds, 0 ≤ n d)
    (h : ∀ d ∈ ds, ∃ s1, g d (wipeS vs s0) = .ok () s1 ∧ t s1 = .ok (tb d) s1 ∧ (tb d = true → f s1 = .ok (.int (n d)) s1) ∧ wipeS vs s1 = wipeS vs s0) (hr : restL s0.ρ vs s0.ρ = s0.ρ) :
    eSum vs fi g t f s = .ok (.int ((ds.filter tb).map n).sum) s0 := by
  unfold eSum
  rw [hi, bind_ok]
  obtain ⟨s2, k1, k2⟩ := sum_step (s := s0) (acc := 0) rfl (Int.le_refl 0) (by omega) hn h
  rw [k1, nox_ok, bind_ok]
  have e1 : (wipeS vs s2).cs = (wipeS vs s0).cs := by rw [k2]
  have e1 : s2.cs = s0.cs := e1
  have e2 : (wipeS vs s2).ρ = (wipeS vs s0).ρ := by rw [k2]
  have e2 : wipeL vs s2.ρ = wipeL vs s0.ρ := e2
  have e3 : restS vs s0 s2 = s0 := by
    unfold restS
    rw [e1, ← restL_wipe, e2, restL_wipe, hr]
  rw [e3, Int.zero_add]
/-! ## what holds, by the program -/
theorem sum_nat_int (l : List Nat) : ((l.sum : Nat) : Int) = (l.map fun n : Nat => (n : Int)).sum := by
  induction l with
  | nil => rfl
  | cons x l ih => simp only [List.sum_cons, List.map_cons]; omega
theorem range_getD {α β : Type} {l : List α} {d : α} {f : α → β} : (List.range l.length).map (fun k => f (l.getD k d)) = l.map f := by
  refine List.ext_getElem (by simp) fun i h1 h2 => ?_
  have hi : i < l.length := by simpa using h1
  simp [List.getD, hi]
theorem len_flat {α β : Type} {l : List α} {f : α → List β} : (l.flatMap f).length = (l.map fun a => (f a).length).sum := by
  induction l with
  | nil => rfl
  | cons x l ih => simp only [List.flatMap_cons, List.length_append, List.map_cons, List.sum_cons, ih]
theorem filt_sum {q : List Int → Bool} : ∀ {l : List (Int × List Int)}, (∀ r ∈ l, 0 ≤ r.1) → ((((l.map fun r => if q r.2 = true then r.1.toNat else 0).sum : Nat)) : Int) = ((l.filter fun r => q r.2).map (·.1)).sum
  | [], _ => rfl
  | r :: l, h => by
    have i1 := filt_sum (q := q) (l := l) fun x hx => h x (List.mem_cons_of_mem _ hx)
    have i2 := h r List.mem_cons_self
    rw [List.map_cons, List.sum_cons]
    cases hq : q r.2
    · rw [List.filter_cons_of_neg (by simp [hq]), if_neg Bool.false_ne_true, Nat.zero_add]
      exact i1
    · rw [List.filter_cons_of_pos (by simpa using hq), List.map_cons, List.sum_cons, ← i1, if_pos rfl]
      omega
theorem wth_len {g : Sig} {m : Mdl} (h : m.ok g) (x : Int) : ((m.wth x).length : Int) = ((m.rows.filter fun r => decide (x ∈ r.2)).map (·.1)).sum := by
  have e : (m.wth x).length = (m.rows.map fun r => if decide (x ∈ r.2) = true then r.1.toNat else 0).sum := by
    unfold Mdl.wth Mdl.people
    rw [List.filter_flatMap, len_flat, ← range_getD (l := m.rows) (d := (0, []))]
    congr 1
    refine List.map_congr_left fun k hk => ?_
    have : ∀ p ∈ m.seg k, m.has x p = decide (x ∈ (m.rows.getD k (0, [])).2) := by
      intro p hp
      unfold Mdl.seg at hp
      obtain ⟨j, hj, rfl⟩ := List.mem_map.mp hp
      simp [Mdl.has, Mdl.nouns]
    rw [List.filter_congr this]
    by_cases hx : x ∈ (m.rows.getD k (0, [])).2
    · rw [decide_eq_true hx, if_pos rfl, List.filter_eq_self.mpr (fun _ _ => rfl)]
      simp [Mdl.seg, Mdl.size]
    · rw [decide_eq_false hx, if_neg Bool.false_ne_true]
      simp
  rw [e]
  exact filt_sum (q := fun l => decide (x ∈ l)) fun r hr => by have := (h.rows r hr).1; omega
theorem p_size {g : Sig} {m : Mdl} {x : Int} {cs : List Cell} (h : m.ok g) : F_size_of_noun [m.d, .int x] cs = .ok (.int (m.wth x).length) ⟨[], cs⟩ := by
  have wl := with_le h x
  have e0 := wth_len h x
  have ef : (((m.rows.map rowD).filter fun d => match d with | .tup [_, l] => (match inOp (.int x) l with | some (.bl b) => b | _ => false) | _ => false).map fun d => match d with | .tup [.int n, _] => n | _ => 0).sum = ((m.rows.filter fun r => decide (x ∈ r.2)).map (·.1)).sum := by
    rw [List.filter_map, List.map_map]
    congr 1
    have : ((fun d : D => match d with | .tup [_, l] => (match inOp (.int x) l with | some (.bl b) => b | _ => false) | _ => false) ∘ rowD) = fun r => decide (x ∈ r.2) := by
      funext r
      simp [rowD, in_intT]
    rw [this]
    refine List.map_congr_left fun r hr => ?_
    simp [rowD]
  have e := sum_ok (vs := [2, 3]) (fi := iSeq (eOp ixD (eV 0) (eC (.int 0)))) (g := gT 2 (gCons (gN 2) (gCons (gN 3) (gNil)))) (t := tV (eOp inOp (eV 1) (eVB 3))) (f := eV 2) (ds := m.rows.map rowD)
    (tb := fun d => match d with | .tup [_, l] => (match inOp (.int x) l with | some (.bl b) => b | _ => false) | _ => false) (n := fun d => match d with | .tup [.int n, _] => n | _ => 0)
    (s := ⟨[.sv m.d, .sv (.int x), .un, .un], cs⟩) (s0 := ⟨[.sv m.d, .sv (.int x), .un, .un], cs⟩) (by simp [Mdl.d]) (by rw [ef, ← e0]; omega) (fun d hd => by
      obtain ⟨r, hr, rfl⟩ := List.mem_map.mp hd
      have := (h.rows r hr).1
      simp [rowD]
      omega) (fun d hd => by
      obtain ⟨r, hr, rfl⟩ := List.mem_map.mp hd
      exact ⟨⟨[.sv m.d, .sv (.int x), .sv (.int r.1), .sv (intT r.2)], cs⟩, by simp [rowD], by simp [rowD, in_intT], fun _ => by simp [rowD], by simp⟩) (by simp)
  rw [ef, ← e0] at e
  simp [F_size_of_noun, B_size_of_noun, e]
theorem ppl_len {g : Sig} {m : Mdl} (h : m.ok g) : ((m.people.length : Nat) : Int) = (m.rows.map (·.1)).sum := by
  have e : m.people.length = (m.rows.map fun r => r.1.toNat).sum := by
    unfold Mdl.people
    rw [len_flat, ← range_getD (l := m.rows) (d := (0, []))]
    congr 1
    refine List.map_congr_left fun k hk => ?_
    simp [Mdl.seg, Mdl.size]
  rw [e]
  have := filt_sum (l := m.rows) (q := fun _ => true) fun r hr => by have := (h.rows r hr).1; omega
  simp only [if_true] at this
  rw [this, List.filter_eq_self.mpr (fun _ _ => rfl)]
theorem p_first {g : Sig} {m : Mdl} {z : Sen} {cs : List Cell} (h : m.ok g) (hz : z.ok g) : ∃ r, F_first_as_said [m.d, z.d] cs = .ok r ⟨[], cs⟩ ∧ isNon r = !((List.range m.rows.length).any fun k => z.said m k) := by
  have hl := h.len
  obtain ⟨s', ⟨x, rfl⟩, e⟩ := forL_find (g := gN 2) (b := (sIf (tU (eCall (F_is_as_said) (aCons (eV 0) (aCons (eV 1) (aCons (eV 2) (aNil)))))) (sRet (eV 2)) (sNil))) (tb := fun d => match d with | .int i => z.said m i | _ => false) (out := fun d => d) (I := fun s => ∃ x, s = ⟨[.sv m.d, .sv z.d, x], cs⟩) (ds := rngL 0 (m.rows.length : Nat)) (s := ⟨[.sv m.d, .sv z.d, .un], cs⟩) ⟨_, rfl⟩ (fun d hd s hs => by
    obtain ⟨x, rfl⟩ := hs
    obtain ⟨i, h0, h1, rfl⟩ := rng_mem.mp hd
    refine ⟨⟨[.sv m.d, .sv z.d, .sv (.int i)], cs⟩, ⟨_, rfl⟩, ?_⟩
    have e1 := p_said (cs := cs) h hz h0 h1
    cases hs : z.said m i <;> simp [e1, hs])
  have m1 : (m.rows.length : Int) < 4611686018427387904 := by omega
  have m2 : -4611686018427387904 ≤ (m.rows.length : Int) := by omega
  have ea : ((rngL 0 (m.rows.length : Nat)).any fun d => match d with | .int i => z.said m i | _ => false) = ((List.range m.rows.length).any fun k => z.said m k) := by
    unfold rngL
    rw [List.any_map]
    simp [Function.comp_def]
  cases hf : (rngL 0 (m.rows.length : Nat)).find? (fun d => match d with | .int i => z.said m i | _ => false) with
  | none =>
    rw [hf] at e
    have e : _ = Res.ok Fl.nx _ := e
    refine ⟨.non, ?_, ?_⟩
    · have e2 := e
      simp only [Mdl.d] at e2
      simp [F_first_as_said, B_first_as_said, Mdl.d, e2, m1, m2]
    · rw [← ea]
      have : ((rngL 0 (m.rows.length : Nat)).any fun d => match d with | .int i => z.said m i | _ => false) = false := by
        rw [List.any_eq_false]
        exact fun d hd => List.find?_eq_none.mp hf d hd
      rw [this]
      rfl
  | some d =>
    rw [hf] at e
    have e : _ = Res.ok (Fl.rt d) _ := e
    have hd := List.mem_of_find?_eq_some hf
    have ht := List.find?_some hf
    obtain ⟨i, _, _, rfl⟩ := rng_mem.mp hd
    refine ⟨.int i, ?_, ?_⟩
    · have e2 := e
      simp only [Mdl.d] at e2
      simp [F_first_as_said, B_first_as_said, Mdl.d, e2, m1, m2]
    · rw [← ea]
      have : ((rngL 0 (m.rows.length : Nat)).any fun d => match d with | .int i => z.said m i | _ => false) = true := List.any_eq_true.mpr ⟨_, hd, ht⟩
      rw [this]
      rfl
theorem p_holds_in {g : Sig} {m : Mdl} {z : Sen} {cs : List Cell} (h : m.ok g) (hz : z.ok g) : F_holds_in [m.d, z.d] cs = .ok (.bl (z.holds m)) ⟨[], cs⟩ := by
  have sm1 : z.sm = true → F_holds_in [m.d, z.d] cs = .ok (.bl (z.holds m)) ⟨[], cs⟩ := fun hs => by
    obtain ⟨r, e1, e2⟩ := p_first (cs := cs) h hz
    rw [← any_said h hz hs] at e2
    cases z with
    | nn w x y =>
      simp only [Sen.sm, Bool.or_eq_true, beq_iff_eq] at hs
      simp only [Sen.d] at e1
      rcases hs with rfl | rfl
      · simp [F_holds_in, B_holds_in, F_compares_sizes, B_compares_sizes, F_says_some, B_says_some, Sen.d, e1, e2]
      · simp [F_holds_in, B_holds_in, F_compares_sizes, B_compares_sizes, F_says_some, B_says_some, Sen.d, e1, e2]
    | se q x d v =>
      simp only [Sen.sm, beq_iff_eq] at hs
      subst hs
      simp only [Sen.d] at e1
      simp [F_holds_in, B_holds_in, F_compares_sizes, B_compares_sizes, F_says_some, B_says_some, Sen.d, e1, e2]
    | vb q x d v b p y =>
      simp only [Sen.sm, beq_iff_eq] at hs
      subst hs
      simp only [Sen.d] at e1
      simp [F_holds_in, B_holds_in, F_compares_sizes, B_compares_sizes, F_says_some, B_says_some, Sen.d, e1, e2]
  have sm2 : z.sm = false → z.neg.sm = true → F_holds_in [m.d, z.d] cs = .ok (.bl (z.holds m)) ⟨[], cs⟩ := fun hs hn => by
    obtain ⟨r, e1, e2⟩ := p_first (cs := cs) h (Sen.neg_ok hz)
    rw [← any_said h (Sen.neg_ok hz) hn, holds_neg hz, Bool.not_not] at e2
    have e3 := p_negated (cs := cs) hz
    cases z with
    | nn w x y =>
      rcases w6 hz.1 with rfl | rfl | rfl | rfl | rfl | rfl
      · simp only [Sen.d, Sen.neg, opp] at e1 e3
        simp [F_holds_in, B_holds_in, F_compares_sizes, B_compares_sizes, F_says_some, B_says_some, Sen.d, e1, e2, e3]
      · cases hs
      · cases hs
      · simp only [Sen.d, Sen.neg, opp] at e1 e3
        simp [F_holds_in, B_holds_in, F_compares_sizes, B_compares_sizes, F_says_some, B_says_some, Sen.d, e1, e2, e3]
      · cases hn
      · cases hn
    | se q x d v =>
      rcases w2 hz.1 with rfl | rfl
      · simp only [Sen.d, Sen.neg, oq] at e1 e3
        simp [F_holds_in, B_holds_in, F_compares_sizes, B_compares_sizes, F_says_some, B_says_some, Sen.d, e1, e2, e3]
      · cases hs
    | vb q x d v b p y =>
      rcases w2 hz.1 with rfl | rfl
      · simp only [Sen.d, Sen.neg, oq] at e1 e3
        simp [F_holds_in, B_holds_in, F_compares_sizes, B_compares_sizes, F_says_some, B_says_some, Sen.d, e1, e2, e3]
      · cases hs
  by_cases hs : z.sm = true
  · exact sm1 hs
  · have hs : z.sm = false := by simpa using hs
    by_cases hn : z.neg.sm = true
    · exact sm2 hs hn
    · cases z with
      | nn w x y =>
        have p1 := p_size (x := x) (cs := cs) h
        have p2 := p_size (x := y) (cs := cs) h
        rcases w6 hz.1 with rfl | rfl | rfl | rfl | rfl | rfl
        · exact absurd rfl hn
        · cases hs
        · cases hs
        · exact absurd rfl hn
        · simp [F_holds_in, B_holds_in, F_compares_sizes, B_compares_sizes, Sen.d, p1, p2, Sen.holds]
        · have : (!decide ((m.wth y).length ≤ (m.wth x).length)) = decide ((m.wth x).length < (m.wth y).length) := by
            rw [Bool.eq_iff_iff]; simp
          simp [F_holds_in, B_holds_in, F_compares_sizes, B_compares_sizes, Sen.d, p1, p2, Sen.holds, this]
      | se q x d v =>
        rcases w2 hz.1 with rfl | rfl
        · exact absurd rfl hn
        · cases hs
      | vb q x d v b p y =>
        rcases w2 hz.1 with rfl | rfl
        · exact absurd rfl hn
        · cases hs
def dueD (bs : List Bool) : D := if false ∈ bs then .int (bs.idxOf false : Nat) else .non
theorem ff_loop {g : Sig} {m : Mdl} {pr : D} {cs : List Cell} (h : m.ok g) : ∀ (zs : List Sen) (k : Nat) (x y : Slot), (∀ z ∈ zs, z.ok g) → ∃ x' y', forL (gT 2 (gCons (gN 2) (gCons (gN 3) (gNil)))) (sIf (tN (tU (eCall (F_holds_in) (aCons (eV 0) (aCons (eV 3) (aNil)))))) (sRet (eV 2)) (sNil)) (enD k (zs.map Sen.d)) ⟨[.sv m.d, .sv pr, x, y], cs⟩ =
    .ok (if false ∈ zs.map (Sen.holds m) then .rt (.int ((k + (zs.map (Sen.holds m)).idxOf false : Nat) : Int)) else .nx) ⟨[.sv m.d, .sv pr, x', y'], cs⟩
  | [], k, x, y, _ => ⟨x, y, by simp [enD]⟩
  | z :: zs, k, x, y, hz => by
    have e1 := p_holds_in (cs := cs) h (hz z List.mem_cons_self)
    obtain ⟨x', y', ih⟩ := ff_loop (pr := pr) (cs := cs) h zs (k + 1) (.sv (.int (k : Nat))) (.sv z.d) fun t ht => hz t (List.mem_cons_of_mem _ ht)
    cases hh : z.holds m with
    | false =>
      refine ⟨.sv (.int (k : Nat)), .sv z.d, ?_⟩
      simp [enD, e1, hh]
    | true =>
      refine ⟨x', y', ?_⟩
      rw [List.map_cons, enD, forL_cons]
      have e2 : k + 1 + (zs.map (Sen.holds m)).idxOf false = k + ((zs.map (Sen.holds m)).idxOf false + 1) := by omega
      rw [e2] at ih
      simp [e1, hh, ih, List.idxOf_cons]
/-! ## signatures and models, drawn -/
def sigL : List (Int × Int) := [(2, 1), (2, 1), (3, 0), (2, 2), (3, 1), (1, 1)]
def g21 : Sig := ⟨2, 1, by decide, by decide, by decide, by decide⟩
def g30 : Sig := ⟨3, 0, by decide, by decide, by decide, by decide⟩
def g22 : Sig := ⟨2, 2, by decide, by decide, by decide, by decide⟩
def g31 : Sig := ⟨3, 1, by decide, by decide, by decide, by decide⟩
def g11 : Sig := ⟨1, 1, by decide, by decide, by decide, by decide⟩
def five (g : Sig) : Prop := g = g21 ∨ g = g30 ∨ g = g22 ∨ g = g31 ∨ g = g11
theorem s_signature (s : Strm) : ∃ (g : Sig) (s' : Strm), F__law_signature [.cell 0] [s.c] = .ok g.d ⟨[], [s'.c]⟩ ∧ five g := by
  obtain ⟨x, s1, e1, h0, h1⟩ := s_next s 6 (by decide) (by decide)
  have hx : x = 0 ∨ x = 1 ∨ x = 2 ∨ x = 3 ∨ x = 4 ∨ x = 5 := by omega
  rcases hx with rfl | rfl | rfl | rfl | rfl | rfl
  · exact ⟨g21, s1, by simp [F__law_signature, B__law_signature, e1, Sig.d, g21], .inl rfl⟩
  · exact ⟨g21, s1, by simp [F__law_signature, B__law_signature, e1, Sig.d, g21], .inl rfl⟩
  · exact ⟨g30, s1, by simp [F__law_signature, B__law_signature, e1, Sig.d, g30], .inr (.inl rfl)⟩
  · exact ⟨g22, s1, by simp [F__law_signature, B__law_signature, e1, Sig.d, g22], .inr (.inr (.inl rfl))⟩
  · exact ⟨g31, s1, by simp [F__law_signature, B__law_signature, e1, Sig.d, g31], .inr (.inr (.inr (.inl rfl)))⟩
  · exact ⟨g11, s1, by simp [F__law_signature, B__law_signature, e1, Sig.d, g11], .inr (.inr (.inr (.inr rfl)))⟩
theorem zts_asc (n : Nat) : Asc (zts n) := by
  unfold zts Asc
  rw [List.pairwise_map]
  exact List.pairwise_lt_range.imp fun {a b} h => by omega
theorem s_some (s : Strm) (n : Int) (h0 : 0 ≤ n) (hn : n ≤ 1000) : ∃ (l : List Int) (s' : Strm), F__law_some [.cell 0, .int n] [s.c] = .ok (intT l) ⟨[], [s'.c]⟩ ∧ (∀ x ∈ l, 0 ≤ x ∧ x < n) ∧ Asc l := by
  obtain ⟨zs, cs, e, ⟨s', rfl⟩, hsub, hP, _⟩ := lcS (i := 2) (inj := D.int) (s := ⟨[.sv (.cell 0), .sv (.int n), .un], [s.c]⟩) (fi := iRn1 (aCons (eV 1) aNil)) (t := tV (eOp eqOp (eCall F__law_next (aCons (eV 0) (aCons (eC (.int 2)) aNil))) (eC (.int 1)))) (f := eV 2)
    (zts n.toNat) atS (fun x y => y = .int x) (by simp [rngL_int]; omega) (by rw [zts_length]; omega) (by simp) ⟨s, rfl⟩ (fun x hx cs hc => by
      obtain ⟨s1, rfl⟩ := hc
      obtain ⟨y, s2, e, _, _⟩ := s_next s1 2 (by decide) (by decide)
      exact ⟨y == 1, [s2.c], by simp [e], ⟨s2, rfl⟩, fun _ => ⟨.int x, [s2.c], by simp, ⟨s2, rfl⟩, rfl⟩⟩)
  have hz : zs.map (·.2) = (zs.map (·.1)).map D.int := by
    rw [List.map_map]
    exact List.map_congr_left fun z hz => hP z hz
  refine ⟨zs.map (·.1), s', ?_, fun x hx => ?_, (zts_asc n.toNat).sublist hsub⟩
  · simp [F__law_some, B__law_some, e, hz, intT]
  · have := mem_zts.mp (hsub.subset hx)
    omega
theorem s_model (s : Strm) (g : Sig) (k : Int) (hk : 0 ≤ k) (hk4 : k ≤ 4) : ∃ (m : Mdl) (s' : Strm), F__law_model [.cell 0, g.d, .int k] [s.c] = .ok m.d ⟨[], [s'.c]⟩ ∧ m.gd g ∧ m.rows.length ≤ 4 := by
  have gn := g.hn
  have gn4 := g.hn4
  have gv := g.hv
  have gv2 := g.hv2
  obtain ⟨n, s1, e1, h0, h1⟩ := s_next s (k + 1) (by omega) (by omega)
  obtain ⟨zs, cs, e2, ⟨s2, rfl⟩, _, hP, hl⟩ := lcS (i := 6) (inj := D.int) (fi := iRn1 (aCons (eV 3) (aNil))) (t := tYes) (f := eTup (aCons (eOp ixD (eF (aCons (eC (.int 1)) (aCons (eC (.int 1)) (aCons (eC (.int 2)) (aCons (eC (.int 3)) (aNil)))))) (eCall (F__law_next) (aCons (eV 0) (aCons (eC (.int 4)) (aNil))))) (aCons (eCall (F__law_some) (aCons (eV 0) (aCons (eOp ixD (eV 1) (eC (.int 0))) (aNil)))) (aNil))))
    (s := ⟨[.sv (.cell 0), .sv g.d, .sv (.int k), .sv (.int n), .un, .un, .un, .un], [s1.c]⟩) (zts n.toNat) atS (fun _ y => ∃ r : Int × List Int, (1 ≤ r.1 ∧ r.1 ≤ 3 ∧ (∀ x ∈ r.2, isN g x) ∧ Asc r.2) ∧ y = rowD r) (by simp [rngL_int]; omega) (by rw [zts_length]; omega) (by simp) ⟨s1, rfl⟩ (fun x hx cs hc => by
      obtain ⟨s2, rfl⟩ := hc
      obtain ⟨y, s3, e, y0, y1⟩ := s_next s2 4 (by decide) (by decide)
      obtain ⟨l, s4, e4, hl, ha⟩ := s_some s3 g.n (by omega) (by omega)
      have hy : y = 0 ∨ y = 1 ∨ y = 2 ∨ y = 3 := by omega
      refine ⟨true, [s2.c], rfl, ⟨s2, rfl⟩, fun _ => ⟨rowD (if y ≤ 1 then 1 else y, l), [s4.c], ?_, ⟨s4, rfl⟩, (if y ≤ 1 then 1 else y, l), ⟨by simp only; omega, by simp only; omega, hl, ha⟩, rfl⟩⟩
      rcases hy with rfl | rfl | rfl | rfl <;> simp [e, e4, Sig.d, rowD])
  have hl := hl fun _ => rfl
  obtain ⟨rows, hrows, hr⟩ := all_map (F := rowD) (ys := zs.map (·.2)) fun y hy => by
    obtain ⟨z, hz, rfl⟩ := List.mem_map.mp hy
    exact hP z hz
  rw [hrows] at e2
  have hn : rows.length = n.toNat := by
    have := congrArg List.length hrows
    have h2 := congrArg List.length hl
    simp only [List.length_map, zts_length] at this h2
    omega
  have inner : ∀ (s2 : Strm) (v : Int), ∃ (r : List (List Int)) (s' : Strm), (aLc [6] (iRn1 (aCons (eV 3) (aNil))) (gN 6) (tYes) (eCall (F__law_some) (aCons (eV 0) (aCons (eV 3) (aNil)))))
      ⟨[.sv (.cell 0), .sv g.d, .sv (.int k), .sv (.int n), .sv (.tup (rows.map rowD)), .un, .un, .sv (.int v)], [s2.c]⟩ = .ok (r.map intT) ⟨[.sv (.cell 0), .sv g.d, .sv (.int k), .sv (.int n), .sv (.tup (rows.map rowD)), .un, .un, .sv (.int v)], [s'.c]⟩ ∧ r.length = n.toNat ∧ ∀ l ∈ r, (∀ x ∈ l, 0 ≤ x ∧ x < n) ∧ Asc l := fun s2 v => by
    obtain ⟨zs, cs, e2, ⟨s3, rfl⟩, _, hP, hl⟩ := lcS (i := 6) (inj := D.int) (fi := iRn1 (aCons (eV 3) (aNil))) (t := tYes) (f := eCall (F__law_some) (aCons (eV 0) (aCons (eV 3) (aNil))))
      (s := ⟨[.sv (.cell 0), .sv g.d, .sv (.int k), .sv (.int n), .sv (.tup (rows.map rowD)), .un, .un, .sv (.int v)], [s2.c]⟩) (zts n.toNat) atS (fun _ y => ∃ l : List Int, ((∀ x ∈ l, 0 ≤ x ∧ x < n) ∧ Asc l) ∧ y = intT l) (by simp [rngL_int]; omega) (by rw [zts_length]; omega) (by simp) ⟨s2, rfl⟩ (fun x hx cs hc => by
        obtain ⟨s3, rfl⟩ := hc
        obtain ⟨l, s4, e4, hl⟩ := s_some s3 n h0 (by omega)
        exact ⟨true, [s3.c], rfl, ⟨s3, rfl⟩, fun _ => ⟨intT l, [s4.c], by simp [e4], ⟨s4, rfl⟩, l, hl, rfl⟩⟩)
    have hl := hl fun _ => rfl
    obtain ⟨r, hr, hr2⟩ := all_map (F := intT) (ys := zs.map (·.2)) fun y hy => by
      obtain ⟨z, hz, rfl⟩ := List.mem_map.mp hy
      exact hP z hz
    rw [hr] at e2
    refine ⟨r, s3, e2, ?_, hr2⟩
    have := congrArg List.length hr
    have h2 := congrArg List.length hl
    simp only [List.length_map, zts_length] at this h2
    omega
  obtain ⟨zs, cs, e3, ⟨s3, rfl⟩, _, hP, hl⟩ := lcS (i := 7) (inj := D.int) (fi := iRn1 (aCons (eOp ixD (eV 1) (eC (.int 1))) (aNil))) (t := tYes) (f := eC1 tupD (eF (aLc [6] (iRn1 (aCons (eV 3) (aNil))) (gN 6) (tYes) (eCall (F__law_some) (aCons (eV 0) (aCons (eV 3) (aNil)))))))
    (s := ⟨[.sv (.cell 0), .sv g.d, .sv (.int k), .sv (.int n), .sv (.tup (rows.map rowD)), .un, .un, .un], [s2.c]⟩) (zts g.v.toNat) atS (fun _ y => ∃ r : List (List Int), (r.length = n.toNat ∧ ∀ l ∈ r, (∀ x ∈ l, 0 ≤ x ∧ x < n) ∧ Asc l) ∧ y = relD r) (by simp [rngL_int, Sig.d]; omega) (by rw [zts_length]; omega) (by simp) ⟨s2, rfl⟩ (fun x hx cs hc => by
      obtain ⟨s3, rfl⟩ := hc
      obtain ⟨r, s4, e4, hr, hr2⟩ := inner s3 x
      exact ⟨true, [s3.c], rfl, ⟨s3, rfl⟩, fun _ => ⟨relD r, [s4.c], by simp [e4, relD], ⟨s4, rfl⟩, r, ⟨hr, hr2⟩, rfl⟩⟩)
  have hlv := hl fun _ => rfl
  obtain ⟨verbs, hv, hverbs⟩ := all_map (F := relD) (ys := zs.map (·.2)) fun y hy => by
    obtain ⟨z, hz, rfl⟩ := List.mem_map.mp hy
    exact hP z hz
  rw [hv] at e3
  have hvl : verbs.length = g.v.toNat := by
    have := congrArg List.length hv
    have h2 := congrArg List.length hlv
    simp only [List.length_map, zts_length] at this h2
    omega
  obtain ⟨zs, cs, e4, ⟨s4, rfl⟩, _, hP, hl⟩ := lcS (i := 7) (inj := D.int) (fi := iRn1 (aCons (eOp ixD (eV 1) (eC (.int 1))) (aNil))) (t := tYes) (f := eCall (F__law_some) (aCons (eV 0) (aCons (eV 3) (aNil))))
    (s := ⟨[.sv (.cell 0), .sv g.d, .sv (.int k), .sv (.int n), .sv (.tup (rows.map rowD)), .sv (.tup (verbs.map relD)), .un, .un], [s3.c]⟩) (zts g.v.toNat) atS (fun _ y => ∃ l : List Int, ((∀ x ∈ l, 0 ≤ x ∧ x < n) ∧ Asc l) ∧ y = intT l) (by simp [rngL_int, Sig.d]; omega) (by rw [zts_length]; omega) (by simp) ⟨s3, rfl⟩ (fun x hx cs hc => by
      obtain ⟨s4, rfl⟩ := hc
      obtain ⟨l, s5, e4, hl⟩ := s_some s4 n h0 (by omega)
      exact ⟨true, [s4.c], rfl, ⟨s4, rfl⟩, fun _ => ⟨intT l, [s5.c], by simp [e4], ⟨s5, rfl⟩, l, hl, rfl⟩⟩)
  have hls := hl fun _ => rfl
  obtain ⟨selfs, hs, hselfs⟩ := all_map (F := intT) (ys := zs.map (·.2)) fun y hy => by
    obtain ⟨z, hz, rfl⟩ := List.mem_map.mp hy
    exact hP z hz
  rw [hs] at e4
  have hsl : selfs.length = g.v.toNat := by
    have := congrArg List.length hs
    have h2 := congrArg List.length hls
    simp only [List.length_map, zts_length] at this h2
    omega
  refine ⟨⟨rows, verbs, selfs⟩, s4, ?_, ⟨⟨fun r hr' => ⟨(hr r hr').1, (hr r hr').2.1, (hr r hr').2.2.1⟩, by show rows.length ≤ 12; rw [hn]; omega, hvl, fun r hr' => ?_, hsl, fun l hl x hx => ?_⟩, fun r hr' => (hr r hr').2.2.2, fun r hr' l hl => ((hverbs r hr').2 l hl).2, fun l hl => (hselfs l hl).2⟩, by show rows.length ≤ 4; rw [hn]; omega⟩
  · simp [F__law_model, B__law_model, e1, e2, e3, e4, Mdl.d]
  · obtain ⟨a, b⟩ := hverbs r hr'
    refine ⟨by rw [a, hn], fun l hl x hx => ?_⟩
    have := (b l hl).1 x hx
    rw [hn]
    omega
  · have := (hselfs l hl).1 x hx
    rw [hn]
    omega
/-! ## what holds, group by group -/
def Mdl.having (m : Mdl) (x : Int) : List Int := (zts m.rows.length).filter fun k => decide (x ∈ m.nouns k)
def Mdl.gsize (m : Mdl) (x : Int) : Int := ((m.having x).map fun k => m.size k.toNat).sum
def Mdl.one (m : Mdl) (i v : Int) (b : Bool) (o : Int) : List Bool := (if o = i then [m.slf v i] else []) ++ (if o ≠ i ∨ 1 < m.size i.toNat then [if b = true then m.rel v o i else m.rel v i o] else [])
def Mdl.seen (m : Mdl) (i v : Int) (b : Bool) (y : Int) : List Bool := (m.having y).flatMap (m.one i v b)
def Sen.gs (m : Mdl) (z : Sen) (i : Int) : Bool := match z with
  | .nn _ _ y => decide (y ∈ m.nouns i)
  | .se _ _ d v => m.slf v i == d
  | .vb _ _ d v b p y => if p = 0 then (m.seen i v b y).all (· == d) else (m.seen i v b y).any (· == d)
def Sen.gh (m : Mdl) (z : Sen) : Bool := match z with
  | .nn w x y => if w = 4 then decide (m.gsize y ≤ m.gsize x) else if w = 5 then decide (m.gsize x < m.gsize y) else
      if w = 0 then (m.having x).all (Sen.gs m z) else if w = 2 then !(m.having x).all (Sen.gs m z) else if w = 3 then !(m.having x).any (Sen.gs m z) else (m.having x).any (Sen.gs m z)
  | .se q x _ _ => if q = 0 then (m.having x).all (Sen.gs m z) else (m.having x).any (Sen.gs m z)
  | .vb q x _ _ _ _ _ => if q = 0 then (m.having x).all (Sen.gs m z) else (m.having x).any (Sen.gs m z)
theorem mem_having {m : Mdl} {x k : Int} : k ∈ m.having x ↔ (0 ≤ k ∧ k < m.rows.length) ∧ x ∈ m.nouns k := by
  unfold Mdl.having
  rw [List.mem_filter, mem_zts, decide_eq_true_iff]
theorem having_le {g : Sig} {m : Mdl} (h : m.ok g) (x : Int) : (m.having x).length ≤ 12 := by
  have := List.length_filter_le (fun k => decide (x ∈ m.nouns k)) (zts m.rows.length)
  rw [zts_length] at this
  exact Nat.le_trans this h.len
theorem l_having {g : Sig} {m : Mdl} {x : Int} {cs : List Cell} (h : m.ok g) : F__law_having [m.d, .int x] cs = .ok (.lst ((m.having x).map D.int)) ⟨[], cs⟩ := by
  have hl := h.len
  have e : ∀ s1 : S, s1 = ⟨[.sv m.d, .sv (.int x), .un], cs⟩ → (aLc [2] (iRn1 (aCons (eC1 lenD (eOp ixD (eV 0) (eC (.int 0)))) (aNil))) (gN 2) (tV (eOp inOp (eV 1) (eOp ixD (eOp ixD (eOp ixD (eV 0) (eC (.int 0))) (eV 2)) (eC (.int 1))))) (eV 2)) s1 = .ok ((m.having x).map D.int) s1 := by
    rintro s1 rfl
    refine lcT (inj := D.int) (zts m.rows.length) (fun k => decide (x ∈ m.nouns k)) D.int (by simp [Mdl.d, rngL_zts]; omega) (by rw [zts_length]; omega) (by simp) fun k hk => ?_
    obtain ⟨k0, k1⟩ := mem_zts.mp hk
    refine ⟨by simp [Mdl.d, row_at k0 k1, in_intT], fun _ => by simp⟩
  simp [F__law_having, B__law_having, e _ rfl]
theorem l_size {g : Sig} {m : Mdl} {x : Int} {cs : List Cell} (h : m.ok g) : F__law_size [m.d, .int x] cs = .ok (.int (m.gsize x)) ⟨[], cs⟩ := by
  have hl := having_le h x
  have e : ∀ s1 : S, s1 = ⟨[.sv m.d, .sv (.int x), .un], cs⟩ → (aLc [2] (iSeq (eCall (F__law_having) (aCons (eV 0) (aCons (eV 1) (aNil))))) (gN 2) (tYes) (eOp ixD (eOp ixD (eOp ixD (eV 0) (eC (.int 0))) (eV 2)) (eC (.int 0)))) s1 = .ok ((m.having x).map fun k => D.int (m.size k.toNat)) s1 := by
    rintro s1 rfl
    refine lcM (inj := D.int) (m.having x) (fun k => .int (m.size k.toNat)) (by simp [l_having h]) (by omega) (by simp) fun k hk => ?_
    obtain ⟨⟨k0, k1⟩, _⟩ := mem_having.mp hk
    simp [Mdl.d, row_at k0 k1]
  have e2 : sumD (.lst ((m.having x).map fun k => D.int (m.size k.toNat))) = some (.int (m.gsize x)) := by
    unfold Mdl.gsize
    have : (m.having x).map (fun k => D.int (m.size k.toNat)) = ((m.having x).map fun k => m.size k.toNat).map D.int := by rw [List.map_map]; rfl
    rw [this]
    show (intsD (List.map D.int _)).map _ = _
    rw [Z.ints_map]
    rfl
  simp [F__law_size, B__law_size, e _ rfl, e2]
theorem one_le {m : Mdl} {i v o : Int} {b : Bool} : (m.one i v b o).length ≤ 2 := by
  unfold Mdl.one
  rw [List.length_append]
  split <;> split <;> simp
theorem l_seen {g : Sig} {m : Mdl} {i v y : Int} {b : Bool} {cs : List Cell} (h : m.ok g) (hv : isV g v) (i0 : 0 ≤ i) (i1 : i < m.rows.length) : F__law_seen [m.d, .int i, .int v, .bl b, .int y] cs = .ok (.lst ((m.seen i v b y).map D.bl)) ⟨[], cs⟩ := by
  have hl := having_le h y
  have key : ∀ (xs : List Int) (acc : List Bool) (x6 x7 : Slot), (∀ o ∈ xs, 0 ≤ o ∧ o < m.rows.length) → acc.length + 2 * xs.length ≤ 1000 → ∃ x6' x7', forL (gN 6) (sCons (sIf (tV (eOp eqOp (eV 6) (eVB 1))) (sApp 5 (eOp inOp (eV 1) (eOp ixD (eOp ixD (eV 0) (eC (.int 2))) (eV 2)))) (sNil))
  (sIf (tO (tV (eOp neOp (eV 6) (eVB 1))) (tV (eOp gtD (eOp ixD (eOp ixD (eOp ixD (eV 0) (eC (.int 0))) (eV 1)) (eC (.int 0))) (eC (.int 1))))) (sCons (sSet 7 (eTup (aCons (eV 1) (aCons (eV 6) (aNil)))))
  (sCons (sIf (tU (eVB 3)) (sSet 7 (eTup (aCons (eV 6) (aCons (eV 1) (aNil))))) (sNil))
  (sApp 5 (eOp inOp (eOp ixD (eV 7) (eC (.int 1))) (eOp ixD (eOp ixD (eOp ixD (eV 0) (eC (.int 1))) (eV 2)) (eOp ixD (eV 7) (eC (.int 0)))))))) (sNil)))
      (xs.map D.int) ⟨[.sv m.d, .sv (.int i), .sv (.int v), .sv (.bl b), .sv (.int y), .own (acc.map D.bl), x6, x7], cs⟩ = .ok .nx ⟨[.sv m.d, .sv (.int i), .sv (.int v), .sv (.bl b), .sv (.int y), .own ((acc ++ xs.flatMap (m.one i v b)).map D.bl), x6', x7'], cs⟩ := by
    intro xs
    induction xs with
    | nil => intro acc x6 x7 _ _; exact ⟨x6, x7, by simp⟩
    | cons o xs ih =>
      intro acc x6 x7 hx hlen
      obtain ⟨o0, o1⟩ := hx o List.mem_cons_self
      have e0 := row_at i0 i1
      have e2 := verb_at h hv
      have e3 := self_at h hv
      have e4 := rel_at h hv i0 i1
      have e5 := rel_at h hv o0 o1
      have hl2 : acc.length + (m.one i v b o).length + 2 * xs.length ≤ 1000 := by
        have := one_le (m := m) (i := i) (v := v) (o := o) (b := b)
        rw [List.length_cons] at hlen
        omega
      have l1 : acc.length < 100000 := by omega
      have l2 : acc.length + 1 < 100000 := by omega
      obtain ⟨x6', x7', e⟩ := ih (acc ++ m.one i v b o) (.sv (.int o)) (if o ≠ i ∨ 1 < m.size i.toNat then (.sv (if b = true then .tup [.int o, .int i] else .tup [.int i, .int o])) else x7) (fun p hp => hx p (List.mem_cons_of_mem _ hp)) (by rw [List.length_append]; exact hl2)
      refine ⟨x6', x7', ?_⟩
      rw [List.flatMap_cons, ← List.append_assoc, ← e, List.map_cons, forL_cons]
      by_cases ho : o = i
      · subst ho
        by_cases hz : 1 < m.size o.toNat
        · have hd : m.one o v b o = [m.slf v o, if b = true then m.rel v o o else m.rel v o o] := by unfold Mdl.one; simp [hz]
          rw [hd]
          cases b <;> simp [Mdl.d, e0, e2, e3, e4, hz, in_intT, Mdl.rel, Mdl.slf, l1, l2]
        · have hd : m.one o v b o = [m.slf v o] := by unfold Mdl.one; simp [hz]
          rw [hd]
          simp [Mdl.d, e0, e3, hz, in_intT, Mdl.slf, l1]
      · have hd : m.one i v b o = [if b = true then m.rel v o i else m.rel v i o] := by unfold Mdl.one; simp [ho]
        rw [hd]
        cases b <;> simp [Mdl.d, e2, e4, e5, ho, in_intT, Mdl.rel, l1]
  obtain ⟨x6, x7, e⟩ := key (m.having y) [] .un .un (fun o ho => (mem_having.mp ho).1) (by simp only [List.length_nil]; omega)
  simp only [List.map_nil, List.nil_append] at e
  simp [F__law_seen, B__law_seen, l_having h, e, Mdl.seen]
theorem seen_le {g : Sig} {m : Mdl} (h : m.ok g) {i v y : Int} {b : Bool} : (m.seen i v b y).length ≤ 24 := by
  have := flat_le (f := m.one i v b) (l := m.having y) (B := 2) fun _ _ => one_le
  have h2 := having_le h y
  unfold Mdl.seen
  omega
theorem l_says {g : Sig} {m : Mdl} {z : Sen} {i : Int} {cs : List Cell} (h : m.ok g) (hz : z.ok g) (hn : ∀ w x y, z ≠ .nn w x y) (i0 : 0 ≤ i) (i1 : i < m.rows.length) : F__law_says [m.d, z.d, .int i] cs = .ok (.bl (z.gs m i)) ⟨[], cs⟩ := by
  cases z with
  | nn w x y => exact absurd rfl (hn w x y)
  | se q x d v =>
    have e3 := self_at h hz.2.2
    simp [F__law_says, B__law_says, Sen.d, Sen.gs, Mdl.d, e3, in_intT, Mdl.slf]
  | vb q x d v b p y =>
    have e1 := l_seen (y := y) (b := b) (cs := cs) h hz.2.2.1 i0 i1
    have e2 : ∀ s1 : S, s1 = ⟨[.sv m.d, .sv (Sen.vb q x d v b p y).d, .sv (.int i), .un, .un], cs⟩ → (aLc [4] (iSeq (eCall (F__law_seen) (aCons (eV 0) (aCons (eV 2) (aCons (eOp ixD (eV 1) (eC (.int 4))) (aCons (eOp ixD (eV 1) (eC (.int 5))) (aCons (eOp ixD (eV 1) (eC (.int 7))) (aNil)))))))) (gN 4) (tYes) (eOp eqOp (eV 4) (eOp ixD (eV 1) (eC (.int 3))))) s1 = .ok ((m.seen i v b y).map fun k => D.bl (k == d)) s1 := by
      rintro s1 rfl
      refine lcM (inj := D.bl) (m.seen i v b y) (fun k => .bl (k == d)) (by simp [Sen.d, e1]) (by have := seen_le h (i := i) (v := v) (y := y) (b := b); omega) (by simp) fun k hk => ?_
      simp [Sen.d]
    have e2 := e2 _ rfl
    have e4 := bools_all (m.seen i v b y) (· == d)
    simp only [Sen.d] at e2
    rcases w2 hz.2.2.2.1 with rfl | rfl
    · simp [F__law_says, B__law_says, Sen.d, Sen.gs, e2, e4, List.all_map, Function.comp_def]
    · simp [F__law_says, B__law_says, Sen.d, Sen.gs, e2, e4, List.any_map, Function.comp_def]
theorem q_w0 : idxD (.lst [.str 0, .str 2, .str 3, .str 1]) (.str 0) = some (.int 0) := by kernel_rfl!
theorem q_w1 : idxD (.lst [.str 0, .str 2, .str 3, .str 1]) (.str 1) = some (.int 3) := by kernel_rfl!
theorem q_w2 : idxD (.lst [.str 0, .str 2, .str 3, .str 1]) (.str 2) = some (.int 1) := by kernel_rfl!
theorem q_w3 : idxD (.lst [.str 0, .str 2, .str 3, .str 1]) (.str 3) = some (.int 2) := by kernel_rfl!
theorem l_holds {g : Sig} {m : Mdl} {z : Sen} {cs : List Cell} (h : m.ok g) (hz : z.ok g) : F__law_holds [m.d, z.d] cs = .ok (.bl (z.gh m)) ⟨[], cs⟩ := by
  cases z with
  | nn w x y =>
    have e0 := fun x => l_having (x := x) (cs := cs) h
    have e1 := fun x => l_size (x := x) (cs := cs) h
    have e2 : ∀ (a2 : D) (s1 : S), s1 = ⟨[.sv m.d, .sv (Sen.nn w x y).d, .sv a2, .un, .un], cs⟩ → (aLc [4] (iSeq (eCall (F__law_having) (aCons (eV 0) (aCons (eOp ixD (eV 1) (eC (.int 1))) (aNil))))) (gN 4) (tYes) (eOp inOp (eOp ixD (eV 1) (eC (.int 2))) (eOp ixD (eOp ixD (eOp ixD (eV 0) (eC (.int 0))) (eV 4)) (eC (.int 1))))) s1 = .ok ((m.having x).map fun k => D.bl ((Sen.nn w x y).gs m k)) s1 := by
      rintro a2 s1 rfl
      refine lcM (inj := D.int) (m.having x) (fun k => .bl ((Sen.nn w x y).gs m k)) (by simp [Sen.d, e0]) (by have := having_le h x; omega) (by simp) fun k hk => ?_
      obtain ⟨⟨k0, k1⟩, _⟩ := mem_having.mp hk
      simp [Sen.d, Mdl.d, row_at k0 k1, in_intT, Sen.gs]
    have e3 := fun a2 => e2 a2 _ rfl
    have e4 := bools_all (m.having x) ((Sen.nn w x y).gs m)
    simp only [Sen.d] at e3
    rcases w6 hz.1 with rfl | rfl | rfl | rfl | rfl | rfl <;> simp [F__law_holds, B__law_holds, Sen.d, Sen.gh, e1, e3, e4, q_w0, q_w1, q_w2, q_w3, List.all_map, List.any_map, Function.comp_def]
  | vb q x d v b p y =>
    have e0 := l_having (x := x) (cs := cs) h
    have e2 : ∀ (a2 : D) (s1 : S), s1 = ⟨[.sv m.d, .sv (Sen.vb q x d v b p y).d, .sv a2, .un, .un], cs⟩ → (aLc [4] (iSeq (eCall (F__law_having) (aCons (eV 0) (aCons (eOp ixD (eV 1) (eC (.int 2))) (aNil))))) (gN 4) (tYes) (eCall (F__law_says) (aCons (eV 0) (aCons (eV 1) (aCons (eV 4) (aNil)))))) s1 = .ok ((m.having x).map fun k => D.bl ((Sen.vb q x d v b p y).gs m k)) s1 := by
      rintro a2 s1 rfl
      refine lcM (inj := D.int) (m.having x) (fun k => .bl ((Sen.vb q x d v b p y).gs m k)) (by simp [Sen.d, e0]) (by have := having_le h x; omega) (by simp) fun k hk => ?_
      obtain ⟨⟨k0, k1⟩, _⟩ := mem_having.mp hk
      simp [l_says (cs := cs) h hz (fun _ _ _ z => nomatch z) k0 k1]
    have e3 := fun a2 => e2 a2 _ rfl
    have e4 := bools_all (m.having x) ((Sen.vb q x d v b p y).gs m)
    simp only [Sen.d] at e3
    rcases w2 hz.1 with rfl | rfl <;> simp [F__law_holds, B__law_holds, Sen.d, Sen.gh, e3, e4, List.all_map, List.any_map, Function.comp_def]
  | se q x d v =>
    have e0 := l_having (x := x) (cs := cs) h
    have e2 : ∀ (a2 : D) (s1 : S), s1 = ⟨[.sv m.d, .sv (Sen.se q x d v).d, .sv a2, .un, .un], cs⟩ → (aLc [4] (iSeq (eCall (F__law_having) (aCons (eV 0) (aCons (eOp ixD (eV 1) (eC (.int 2))) (aNil))))) (gN 4) (tYes) (eCall (F__law_says) (aCons (eV 0) (aCons (eV 1) (aCons (eV 4) (aNil)))))) s1 = .ok ((m.having x).map fun k => D.bl ((Sen.se q x d v).gs m k)) s1 := by
      rintro a2 s1 rfl
      refine lcM (inj := D.int) (m.having x) (fun k => .bl ((Sen.se q x d v).gs m k)) (by simp [Sen.d, e0]) (by have := having_le h x; omega) (by simp) fun k hk => ?_
      obtain ⟨⟨k0, k1⟩, _⟩ := mem_having.mp hk
      simp [l_says (cs := cs) h hz (fun _ _ _ z => nomatch z) k0 k1]
    have e3 := fun a2 => e2 a2 _ rfl
    have e4 := bools_all (m.having x) ((Sen.se q x d v).gs m)
    simp only [Sen.d] at e3
    rcases w2 hz.1 with rfl | rfl <;> simp [F__law_holds, B__law_holds, Sen.d, Sen.gh, e3, e4, List.all_map, List.any_map, Function.comp_def]
/-! ## group by group, and individual by individual -/
theorem mem_seen {m : Mdl} {i v y : Int} {b t : Bool} (i0 : 0 ≤ i) : t ∈ m.seen i v b y ↔ t ∈ m.deeds i v b y := by
  rw [mem_deeds]
  unfold Mdl.seen
  rw [List.mem_flatMap]
  constructor
  · rintro ⟨o, ho, ht⟩
    obtain ⟨⟨o0, o1⟩, hy⟩ := mem_having.mp ho
    have eo : ((o.toNat : Nat) : Int) = o := by omega
    refine ⟨o.toNat, by omega, by rw [eo]; exact hy, ?_⟩
    rw [eo]
    unfold Mdl.one at ht
    rcases List.mem_append.mp ht with ht | ht
    · split at ht
      · rename_i hc
        rw [List.mem_singleton] at ht
        exact .inr ⟨hc, ht⟩
      · cases ht
    · split at ht
      · rename_i hc
        rw [List.mem_singleton] at ht
        refine .inl ⟨?_, ht⟩
        by_cases e : o = i
        · subst e
          rcases hc with hc | hc
          · exact absurd rfl hc
          · exact .inr hc
        · exact .inl e
      · cases ht
  · rintro ⟨o, ho, hy, h⟩
    refine ⟨o, mem_having.mpr ⟨⟨by omega, by omega⟩, hy⟩, ?_⟩
    unfold Mdl.one
    rcases h with ⟨hc, ht⟩ | ⟨hc, ht⟩
    · refine List.mem_append_right _ ?_
      rw [if_pos, ht]
      · exact List.mem_singleton_self _
      · by_cases e : (o : Int) = i
        · subst e
          rcases hc with hc | hc
          · exact absurd rfl hc
          · exact .inr hc
        · exact .inl e
    · refine List.mem_append_left _ ?_
      rw [if_pos hc, ht]
      exact List.mem_singleton_self _
theorem mem_all {l l' : List Bool} (h : ∀ t, t ∈ l ↔ t ∈ l') (f : Bool → Bool) : l.all f = l'.all f := by
  rw [Bool.eq_iff_iff, List.all_eq_true, List.all_eq_true]
  exact ⟨fun a x hx => a x ((h x).mpr hx), fun a x hx => a x ((h x).mp hx)⟩
theorem mem_any {l l' : List Bool} (h : ∀ t, t ∈ l ↔ t ∈ l') (f : Bool → Bool) : l.any f = l'.any f := by
  rw [Bool.eq_iff_iff, List.any_eq_true, List.any_eq_true]
  exact ⟨fun ⟨x, hx, a⟩ => ⟨x, (h x).mp hx, a⟩, fun ⟨x, hx, a⟩ => ⟨x, (h x).mpr hx, a⟩⟩
theorem any_having {m : Mdl} {x : Int} {f : Int → Bool} : (m.having x).any f = (List.range m.rows.length).any fun k => decide (x ∈ m.nouns (k : Int)) && f (k : Int) := by
  unfold Mdl.having zts
  rw [List.any_filter, List.any_map]
  rfl
theorem gs_said {g : Sig} {m : Mdl} {z : Sen} {i : Int} (hz : z.ok g) (hn : ∀ w x y, z ≠ .nn w x y) (i0 : 0 ≤ i) : z.said m i = (decide ((match z with | .nn _ x _ => x | .se _ x _ _ => x | .vb _ x _ _ _ _ _ => x) ∈ m.nouns i) && z.gs m i) := by
  cases z with
  | nn w x y => exact absurd rfl (hn w x y)
  | se q x d v => rfl
  | vb q x d v b p y =>
    simp only [Sen.said, Sen.gs]
    rcases w2 hz.2.2.2.1 with rfl | rfl
    · rw [if_neg (by decide), if_pos rfl, mem_all (fun t => mem_seen i0)]
    · rw [if_pos rfl, if_neg (by decide), mem_any (fun t => mem_seen i0)]
      congr 1
      rw [Bool.eq_iff_iff, decide_eq_true_iff, List.any_eq_true]
      constructor
      · exact fun h => ⟨d, h, by simp⟩
      · rintro ⟨t, h, e⟩
        have : t = d := by simpa using e
        exact this ▸ h
theorem gsize_len {g : Sig} {m : Mdl} (h : m.ok g) (x : Int) : m.gsize x = (m.wth x).length := by
  rw [wth_len h]
  unfold Mdl.gsize Mdl.having zts
  have : m.rows = (List.range m.rows.length).map fun k => m.rows.getD k (0, []) := by
    have := range_getD (l := m.rows) (d := (0, [])) (f := id)
    simpa using this.symm
  conv => rhs; rw [this]
  rw [List.filter_map, List.filter_map, List.map_map, List.map_map]
  rfl
theorem gh_sm {g : Sig} {m : Mdl} {z : Sen} (h : m.ok g) (hz : z.ok g) (hs : z.sm = true) : z.gh m = z.holds m := by
  rw [any_said h hz hs]
  cases z with
  | nn w x y =>
    simp only [Sen.sm, Bool.or_eq_true, beq_iff_eq] at hs
    rcases hs with rfl | rfl
    · have e : (Sen.nn 1 x y).gh m = (m.having x).any (Sen.gs m (.nn 1 x y)) := by simp [Sen.gh]
      rw [e, any_having]
      simp [Sen.said, Sen.gs]
    · have e : (Sen.nn 2 x y).gh m = (m.having x).any fun i => !Sen.gs m (.nn 2 x y) i := by
        have : (Sen.nn 2 x y).gh m = !(m.having x).all (Sen.gs m (.nn 2 x y)) := by simp only [Sen.gh]; rfl
        rw [this, List.not_all_eq_any_not]
      rw [e, any_having]
      simp [Sen.said, Sen.gs]
  | se q x d v =>
    simp only [Sen.sm, beq_iff_eq] at hs
    subst hs
    have e : (Sen.se 1 x d v).gh m = (m.having x).any (Sen.gs m (.se 1 x d v)) := by simp [Sen.gh]
    rw [e, any_having]
    congr 1
  | vb q x d v b p y =>
    simp only [Sen.sm, beq_iff_eq] at hs
    subst hs
    have e : (Sen.vb 1 x d v b p y).gh m = (m.having x).any (Sen.gs m (.vb 1 x d v b p y)) := by simp [Sen.gh]
    rw [e, any_having]
    congr 1
    funext k
    rw [gs_said hz (fun _ _ _ z => nomatch z) (Int.natCast_nonneg _)]
theorem gs_neg {g : Sig} {m : Mdl} {z : Sen} (hz : z.ok g) (hn : ∀ w x y, z ≠ .nn w x y) (i : Int) : z.neg.gs m i = !z.gs m i := by
  have bb : ∀ a d : Bool, (a == !d) = !(a == d) := fun a d => by cases a <;> cases d <;> rfl
  cases z with
  | nn w x y => exact absurd rfl (hn w x y)
  | se q x d v => exact bb _ _
  | vb q x d v b p y =>
    rcases w2 hz.2.2.2.1 with rfl | rfl
    · simp only [Sen.neg, Sen.gs, oq, if_true, bb]
      rw [if_neg (by decide), List.not_all_eq_any_not]
    · simp only [Sen.neg, Sen.gs, oq, if_true, bb]
      rw [if_neg (by decide), List.not_any_eq_all_not]
theorem gh_neg {g : Sig} {m : Mdl} {z : Sen} (hz : z.ok g) : z.neg.gh m = !z.gh m := by
  cases z with
  | nn w x y =>
    have e : ∀ w, Sen.gs m (.nn w x y) = fun i => decide (y ∈ m.nouns i) := fun w => rfl
    rcases w6 hz.1 with rfl | rfl | rfl | rfl | rfl | rfl <;> simp [Sen.neg, opp, Sen.gh, e]
    all_goals (rw [Bool.eq_iff_iff]; simp)
  | se q x d v =>
    have e : ∀ i, Sen.gs m (.se (oq q) x (!d) v) i = !Sen.gs m (.se q x d v) i := gs_neg (z := .se q x d v) hz (fun _ _ _ z => nomatch z)
    rcases w2 hz.1 with rfl | rfl
    · simp only [Sen.neg, Sen.gh, oq, if_true] at e ⊢
      rw [if_neg (by decide), List.not_all_eq_any_not]
      congr 1
      exact funext e
    · simp only [Sen.neg, Sen.gh, oq, if_true] at e ⊢
      rw [if_neg (by decide), List.not_any_eq_all_not]
      congr 1
      exact funext e
  | vb q x d v b p y =>
    have e : ∀ i, Sen.gs m (.vb (oq q) x (!d) v b (oq p) y) i = !Sen.gs m (.vb q x d v b p y) i := gs_neg (z := .vb q x d v b p y) hz (fun _ _ _ z => nomatch z)
    rcases w2 hz.1 with rfl | rfl
    · simp only [Sen.neg, Sen.gh, oq, if_true] at e ⊢
      rw [if_neg (by decide), List.not_all_eq_any_not]
      congr 1
      exact funext e
    · simp only [Sen.neg, Sen.gh, oq, if_true] at e ⊢
      rw [if_neg (by decide), List.not_any_eq_all_not]
      congr 1
      exact funext e
theorem gh_holds {g : Sig} {m : Mdl} {z : Sen} (h : m.ok g) (hz : z.ok g) : z.gh m = z.holds m := by
  by_cases hs : z.sm = true
  · exact gh_sm h hz hs
  · by_cases hn : z.neg.sm = true
    · have e := gh_sm h (Sen.neg_ok hz) hn
      rw [gh_neg hz, holds_neg hz] at e
      simpa using e
    · cases z with
      | nn w x y =>
        have g1 := gsize_len h x
        have g2 := gsize_len h y
        rcases w6 hz.1 with rfl | rfl | rfl | rfl | rfl | rfl <;> simp [Sen.sm, Sen.neg, opp] at hs hn
        · simp only [Sen.gh, Sen.holds, g1, g2, if_true]
          rw [Bool.eq_iff_iff]
          simp
        · simp only [Sen.gh, Sen.holds, g1, g2, if_true]
          rw [Bool.eq_iff_iff]
          simp
      | se q x d v => rcases w2 hz.1 with rfl | rfl <;> simp [Sen.sm, Sen.neg, oq] at hs hn
      | vb q x d v b p y => rcases w2 hz.1 with rfl | rfl <;> simp [Sen.sm, Sen.neg, oq] at hs hn
theorem p_gh {g : Sig} {m : Mdl} {z : Sen} {cs : List Cell} (h : m.ok g) (hz : z.ok g) : F_holds_in [m.d, z.d] cs = .ok (.bl (z.gh m)) ⟨[], cs⟩ := by
  rw [gh_holds h hz]
  exact p_holds_in h hz
/-! ## models alike -/
/-! ## the same model written otherwise -/
theorem perm_any {l' l : List Pr} {φ : Pr → Pr} {f' f : Pr → Bool} (hp : l'.Perm (l.map φ)) (h : ∀ a ∈ l, f' (φ a) = f a) : l'.any f' = l.any f := by
  rw [Bool.eq_iff_iff, List.any_eq_true, List.any_eq_true]
  constructor
  · rintro ⟨b, hb, hf⟩
    obtain ⟨a, ha, rfl⟩ := List.mem_map.mp (hp.mem_iff.mp hb)
    exact ⟨a, ha, by rw [← h a ha]; exact hf⟩
  · rintro ⟨a, ha, hf⟩
    exact ⟨φ a, hp.mem_iff.mpr (List.mem_map.mpr ⟨a, ha, rfl⟩), by rw [h a ha]; exact hf⟩
theorem perm_all {l' l : List Pr} {φ : Pr → Pr} {f' f : Pr → Bool} (hp : l'.Perm (l.map φ)) (h : ∀ a ∈ l, f' (φ a) = f a) : l'.all f' = l.all f := by
  rw [Bool.eq_iff_iff, List.all_eq_true, List.all_eq_true]
  constructor
  · intro hA a ha
    rw [← h a ha]
    exact hA _ (hp.mem_iff.mpr (List.mem_map.mpr ⟨a, ha, rfl⟩))
  · intro hB b hb
    obtain ⟨a, ha, rfl⟩ := List.mem_map.mp (hp.mem_iff.mp hb)
    rw [h a ha]
    exact hB a ha
structure Iso (g : Sig) (m m' : Mdl) (φ : Pr → Pr) : Prop where
  perm : m'.people.Perm (m.people.map φ)
  inj : ∀ a ∈ m.people, ∀ b ∈ m.people, φ a = φ b → a = b
  nouns : ∀ x, ∀ a ∈ m.people, (x ∈ m'.nouns (φ a).1 ↔ x ∈ m.nouns a.1)
  does : ∀ v, isV g v → ∀ a ∈ m.people, ∀ b ∈ m.people, m'.does v (φ a) (φ b) = m.does v a b
section
variable {g : Sig} {m m' : Mdl} {φ : Pr → Pr}
theorem Iso.wth (I : Iso g m m' φ) (x : Int) : (m'.wth x).Perm ((m.wth x).map φ) := by
  have h1 := I.perm.filter (m'.has x)
  rw [List.filter_map] at h1
  have h2 : m.people.filter (m'.has x ∘ φ) = m.people.filter (m.has x) := List.filter_congr fun a ha => by
    have := I.nouns x a ha
    simp [Mdl.has, this]
  rw [h2] at h1
  exact h1
theorem Iso.mem (I : Iso g m m' φ) {x : Int} {a : Pr} (ha : a ∈ m.people) : φ a ∈ m'.wth x ↔ a ∈ m.wth x := by
  rw [(I.wth x).mem_iff, List.mem_map]
  constructor
  · rintro ⟨b, hb, e⟩
    have := I.inj b (mem_wth.mp hb).1 a ha e
    rw [← this]
    exact hb
  · intro h
    exact ⟨a, h, rfl⟩
theorem Iso.tells (I : Iso g m m' φ) {z : Sen} (hz : z.ok g) (hn : ∀ w x y, z ≠ .nn w x y) {a : Pr} (ha : a ∈ m.people) : z.tells m' (φ a) = z.tells m a := by
  cases z with
  | nn w x y => exact absurd rfl (hn w x y)
  | se q x d v => simp only [Sen.tells, I.does v hz.2.2 a ha a ha]
  | vb q x d v b p y =>
    have e : ∀ o ∈ m.wth y, (fun o => (if b = true then m'.does v o (φ a) else m'.does v (φ a) o) == d) (φ o) = (fun o => (if b = true then m.does v o a else m.does v a o) == d) o := fun o ho => by
      have ho := (mem_wth.mp ho).1
      simp only [I.does v hz.2.2.1 a ha o ho, I.does v hz.2.2.1 o ho a ha]
    simp only [Sen.tells]
    rw [perm_all (I.wth y) e, perm_any (I.wth y) e]
theorem Iso.holds (I : Iso g m m' φ) {z : Sen} (hz : z.ok g) : z.holds m' = z.holds m := by
  cases z with
  | nn w x y =>
    have l1 : (m'.wth x).length = (m.wth x).length := by rw [(I.wth x).length_eq, List.length_map]
    have l2 : (m'.wth y).length = (m.wth y).length := by rw [(I.wth y).length_eq, List.length_map]
    have l3 : ((m'.wth x).filter fun p => decide (p ∈ m'.wth y)).length = ((m.wth x).filter fun p => decide (p ∈ m.wth y)).length := by
      have h1 := ((I.wth x).filter fun p => decide (p ∈ m'.wth y)).length_eq
      rw [h1, List.filter_map, List.length_map]
      congr 1
      exact List.filter_congr fun a ha => by
        have := I.mem (x := y) (mem_wth.mp ha).1
        simp [this]
    have l4 : ((m'.wth x).filter fun p => decide (p ∈ m'.wth y)).isEmpty = ((m.wth x).filter fun p => decide (p ∈ m.wth y)).isEmpty := by
      rw [Bool.eq_iff_iff, List.isEmpty_iff_length_eq_zero, List.isEmpty_iff_length_eq_zero, l3]
    simp only [Sen.holds, l1, l2, l3, l4]
  | se q x d v =>
    have e := fun a (ha : a ∈ m.wth x) => I.tells hz (fun _ _ _ z => nomatch z) (mem_wth.mp ha).1
    simp only [Sen.holds]
    rw [perm_all (I.wth x) e, perm_any (I.wth x) e]
  | vb q x d v b p y =>
    have e := fun a (ha : a ∈ m.wth x) => I.tells hz (fun _ _ _ z => nomatch z) (mem_wth.mp ha).1
    simp only [Sen.holds]
    rw [perm_all (I.wth x) e, perm_any (I.wth x) e]
end
theorem ppl_nodup (m : Mdl) : m.people.Nodup := by
  unfold Mdl.people List.Nodup
  rw [List.pairwise_flatMap]
  refine ⟨fun k hk => ?_, ?_⟩
  · unfold Mdl.seg
    rw [List.pairwise_map]
    exact List.pairwise_lt_range.imp fun {a b} h e => by
      have := (Prod.ext_iff.mp e).2
      simp at this
      omega
  · exact List.pairwise_lt_range.imp fun {a b} h p hp q hq e => by
      unfold Mdl.seg at hp hq
      obtain ⟨i, _, rfl⟩ := List.mem_map.mp hp
      obtain ⟨j, _, rfl⟩ := List.mem_map.mp hq
      have := (Prod.ext_iff.mp e).1
      simp at this
      omega
/-! ### expanded -/
def nmap (l : List Nat) : List Int := l.map fun (k : Nat) => (k : Int)
theorem nmap_asc {l : List Nat} (h : l.Pairwise (· < ·)) : Asc (nmap l) := by
  show List.Pairwise (· < ·) (l.map fun (k : Nat) => (k : Int))
  rw [List.pairwise_map]
  exact h.imp fun h => by omega
theorem mem_nmap {l : List Nat} {k : Nat} : (k : Int) ∈ nmap l ↔ k ∈ l := by
  unfold nmap
  rw [List.mem_map]
  constructor
  · rintro ⟨j, hj, e⟩
    have : j = k := by omega
    rw [← this]; exact hj
  · intro h; exact ⟨k, h, rfl⟩
theorem nouns_ok {g : Sig} {m : Mdl} (h : m.gd g) {i : Int} (h0 : 0 ≤ i) (h1 : i < m.rows.length) : (∀ x ∈ m.nouns i, isN g x) ∧ Asc (m.nouns i) := by
  have hk : i.toNat < m.rows.length := by omega
  have e : m.nouns i = (m.rows[i.toNat]).2 := by simp [Mdl.nouns, List.getD, hk]
  rw [e]
  exact ⟨(h.rows _ (List.getElem_mem hk)).2.2, h.rasc _ (List.getElem_mem hk)⟩
theorem idx_get {l : List Pr} (h : l.Nodup) {k : Nat} (hk : k < l.length) : l.idxOf l[k] = k := by
  have h1 : l.idxOf l[k] < l.length := List.idxOf_lt_length_iff.mpr (List.getElem_mem hk)
  have h2 : l[l.idxOf l[k]] = l[k] := List.getElem_idxOf h1
  have h3 := List.pairwise_iff_getElem.mp h
  refine Classical.byContradiction fun ne => ?_
  rcases Nat.lt_or_gt_of_ne ne with lt | gt
  · exact h3 _ _ h1 hk lt h2
  · exact h3 _ _ hk h1 gt h2.symm
theorem getD_range {β : Type} {f : Nat → β} {d : β} {n i : Nat} (h : i < n) : ((List.range n).map f).getD i d = f i := by
  simp [List.getD, h]
def gI (H : List Int) (k : Nat) : Int := H.getD k 0
def gL (r : List (List Int)) (h : Int) : List Int := r.getD h.toNat []
def gP (P : List Pr) (k : Nat) : Pr := P.getD k (0, 0)
theorem rel_ix {r : List (List Int)} {h : Int} (h0 : 0 ≤ h) (h1 : h < r.length) : ixD (relD r) (.int h) = some (intT (gL r h)) := by
  have hk : h.toNat < r.length := by omega
  simp [relD, atI_int h0, gL, hk, List.getD]
theorem gL_in {g : Sig} {m : Mdl} (h : m.ok g) {r : List (List Int)} (hr : r ∈ m.verbs) {j : Nat} (hj : j < m.rows.length) : gL r j ∈ r := by
  have hk := (h.rel r hr).1
  have : j < r.length := by omega
  unfold gL
  simp [List.getD, this]
theorem gL_len {g : Sig} {m : Mdl} (h : m.gd g) {r : List (List Int)} (hr : r ∈ m.verbs) {j : Nat} (hj : j < m.rows.length) : (gL r j).length ≤ 12 := by
  have hin := gL_in h.took hr hj
  have := asc_len (h.vasc r hr _ hin) ((h.rel r hr).2 _ hin)
  have := h.len
  omega
/-! ### the groups in another order -/
theorem erase_perm {α : Type} : ∀ {l : List α} {i : Nat} (h : i < l.length), (l[i] :: l.eraseIdx i).Perm l
  | x :: l, 0, _ => List.Perm.refl _
  | x :: l, i + 1, h => by
    have hi : i < l.length := by simpa using h
    have ih := erase_perm (l := l) hi
    simp only [List.getElem_cons_succ, List.eraseIdx_cons_succ]
    exact (List.Perm.swap _ _ _).trans (List.Perm.cons x ih)
def toI : D → Int
  | .int i => i
  | _ => 0
structure Ord (n : Nat) (O : List Int) : Prop where
  perm : O.Perm (nmap (List.range n))
theorem Ord.len {n : Nat} {O : List Int} (h : Ord n O) : O.length = n := by
  rw [h.perm.length_eq]
  simp [nmap]
theorem Ord.mem {n : Nat} {O : List Int} (h : Ord n O) {x : Int} : x ∈ O ↔ 0 ≤ x ∧ x < n := by
  rw [h.perm.mem_iff]
  constructor
  · intro hx
    obtain ⟨k, hk, rfl⟩ := List.mem_map.mp hx
    have := List.mem_range.mp hk
    omega
  · rintro ⟨h0, h1⟩
    exact List.mem_map.mpr ⟨x.toNat, List.mem_range.mpr (by omega), by omega⟩
theorem Ord.nodup {n : Nat} {O : List Int} (h : Ord n O) : O.Nodup := by
  refine h.perm.symm.nodup ?_
  have : Asc (nmap (List.range n)) := nmap_asc List.pairwise_lt_range
  exact this.imp fun h e => by omega
theorem idx_lt {O : List Int} {x : Int} (h : x ∈ O) : O.idxOf x < O.length := List.idxOf_lt_length_iff.mpr h
theorem idx_inj {O : List Int} {x y : Int} (hx : x ∈ O) (hy : y ∈ O) (e : O.idxOf x = O.idxOf y) : x = y := by
  have h1 := List.getElem_idxOf (idx_lt hx)
  have h2 := List.getElem_idxOf (idx_lt hy)
  rw [← h1, ← h2]
  congr 1
theorem idx_getI {l : List Int} (h : l.Nodup) {k : Nat} (hk : k < l.length) : l.idxOf l[k] = k := by
  have h1 : l.idxOf l[k] < l.length := idx_lt (List.getElem_mem hk)
  have h2 : l[l.idxOf l[k]] = l[k] := List.getElem_idxOf h1
  have h3 := List.pairwise_iff_getElem.mp h
  refine Classical.byContradiction fun ne => ?_
  rcases Nat.lt_or_gt_of_ne ne with lt | gt
  · exact h3 _ _ h1 hk lt h2
  · exact h3 _ _ hk h1 gt h2.symm
def mvL (O l : List Int) : List Int := sortZ (l.map fun k => (O.idxOf k : Int))
def Mdl.moved (m : Mdl) (O : List Int) : Mdl := ⟨O.map fun o => m.rows.getD o.toNat (0, []), m.verbs.map fun r => O.map fun o => mvL O (gL r o), m.selfs.map (mvL O)⟩
theorem mem_mvL {O l : List Int} {a : Int} (ha : a ∈ O) (hl : ∀ x ∈ l, x ∈ O) : (O.idxOf a : Int) ∈ mvL O l ↔ a ∈ l := by
  unfold mvL
  rw [(sortZ_perm _).mem_iff, List.mem_map]
  constructor
  · rintro ⟨x, hx, e⟩
    have := idx_inj (hl x hx) ha (by omega)
    rw [← this]; exact hx
  · intro h
    exact ⟨a, h, rfl⟩
theorem mvL_asc {O l : List Int} (h : Asc l) (hl : ∀ x ∈ l, x ∈ O) : Asc (mvL O l) := by
  have h1 := sortZ_sorted (l.map fun k => (O.idxOf k : Int))
  have h2 : (sortZ (l.map fun k => (O.idxOf k : Int))).Nodup := by
    refine (sortZ_perm _).symm.nodup ?_
    unfold List.Nodup
    rw [List.pairwise_map]
    refine List.Pairwise.imp_of_mem (fun {a b} ha hb hab e => ?_) h
    have := idx_inj (hl a ha) (hl b hb) (by omega)
    omega
  unfold mvL
  exact (h1.and h2).imp fun {a b} ⟨q, ne⟩ => by
    have ne : a ≠ b := ne
    omega
theorem mvL_in {O l : List Int} {x : Int} (hl : ∀ x ∈ l, x ∈ O) (h : x ∈ mvL O l) : 0 ≤ x ∧ x < O.length := by
  unfold mvL at h
  rw [(sortZ_perm _).mem_iff, List.mem_map] at h
  obtain ⟨y, hy, rfl⟩ := h
  have := idx_lt (hl y hy)
  omega
theorem row_in {g : Sig} {m : Mdl} (h : m.gd g) {O : List Int} (o : Ord m.rows.length O) {r : List (List Int)} (hr : r ∈ m.verbs) {i : Int} (hi : i ∈ O) : gL r i ∈ r ∧ ∀ x ∈ gL r i, x ∈ O := by
  obtain ⟨i0, i1⟩ := o.mem.mp hi
  have hk := (h.rel r hr).1
  have hin : gL r i ∈ r := by
    have : i.toNat < r.length := by omega
    unfold gL
    simp [List.getD, this]
  exact ⟨hin, fun x hx => o.mem.mpr ((h.rel r hr).2 _ hin x hx)⟩
theorem moved_gd {g : Sig} {m : Mdl} (h : m.gd g) {O : List Int} (o : Ord m.rows.length O) : (m.moved O).gd g := by
  have rin : ∀ i ∈ O, m.rows.getD i.toNat (0, []) ∈ m.rows := fun i hi => by
    obtain ⟨i0, i1⟩ := o.mem.mp hi
    have : i.toNat < m.rows.length := by omega
    simp [List.getD, this]
  refine ⟨⟨fun r hr => ?_, by simp [Mdl.moved, o.len, h.len], by simp [Mdl.moved, h.verbs], fun r hr => ?_, by simp [Mdl.moved, h.selfs], fun l hl x hx => ?_⟩, fun r hr => ?_, fun r hr l hl => ?_, fun l hl => ?_⟩
  · obtain ⟨i, hi, rfl⟩ := List.mem_map.mp hr
    exact h.rows _ (rin i hi)
  · obtain ⟨r0, hr0, rfl⟩ := List.mem_map.mp hr
    refine ⟨by simp [Mdl.moved], fun l hl x hx => ?_⟩
    obtain ⟨i, hi, rfl⟩ := List.mem_map.mp hl
    have := mvL_in (row_in h o hr0 hi).2 hx
    simpa [Mdl.moved] using this
  · obtain ⟨l0, hl0, rfl⟩ := List.mem_map.mp hl
    have := mvL_in (fun x hx => o.mem.mpr (h.self l0 hl0 x hx)) hx
    simpa [Mdl.moved] using this
  · obtain ⟨i, hi, rfl⟩ := List.mem_map.mp hr
    exact h.rasc _ (rin i hi)
  · obtain ⟨r0, hr0, rfl⟩ := List.mem_map.mp hr
    obtain ⟨i, hi, rfl⟩ := List.mem_map.mp hl
    obtain ⟨q1, q2⟩ := row_in h o hr0 hi
    exact mvL_asc (h.vasc r0 hr0 _ q1) q2
  · obtain ⟨l0, hl0, rfl⟩ := List.mem_map.mp hl
    exact mvL_asc (h.sasc l0 hl0) fun x hx => o.mem.mpr (h.self l0 hl0 x hx)
theorem moved_iso {g : Sig} {m : Mdl} (h : m.gd g) {O : List Int} (o : Ord m.rows.length O) : Iso g m (m.moved O) fun p => ((O.idxOf p.1 : Int), p.2) := by
  have inO : ∀ a ∈ m.people, a.1 ∈ O := fun a ha => o.mem.mpr (mem_people ha)
  have getO : ∀ a ∈ m.people, ∀ {β : Type} (f : Int → β) (d : β), (O.map f).getD (O.idxOf a.1) d = f a.1 := fun a ha β f d => by
    have h1 := idx_lt (inO a ha)
    simp [List.getD, h1]
  have inj : ∀ a ∈ m.people, ∀ b ∈ m.people, ((O.idxOf a.1 : Int), a.2) = ((O.idxOf b.1 : Int), b.2) → a = b := fun a ha b hb e => by
    have e1 := (Prod.ext_iff.mp e).1
    have e2 := (Prod.ext_iff.mp e).2
    simp at e1 e2
    exact Prod.ext (idx_inj (inO a ha) (inO b hb) (by omega)) e2
  refine ⟨?_, inj, fun x a ha => ?_, fun v hv a ha b hb => ?_⟩
  · let F : Int → List Pr := fun i => (List.range (m.size i.toNat).toNat).map fun (k : Nat) => ((O.idxOf i : Int), (k : Int))
    have e1 : (m.moved O).people = O.flatMap F := by
      have : O = (List.range O.length).map fun k => O.getD k 0 := by
        have := range_getD (l := O) (d := 0) (f := fun x => x)
        rw [this, List.map_id']
      unfold Mdl.people
      have e2 : (m.moved O).rows.length = O.length := by simp [Mdl.moved]
      rw [e2]
      have eq : ∀ l : List Nat, (∀ k ∈ l, k < O.length) → l.flatMap (m.moved O).seg = l.flatMap fun k => F (O.getD k 0) := by
        intro l
        induction l with
        | nil => intro _; rfl
        | cons k l ih =>
          intro hk
          rw [List.flatMap_cons, List.flatMap_cons, ih fun j hj => hk j (List.mem_cons_of_mem _ hj)]
          congr 1
          have hk := hk k List.mem_cons_self
          have q1 : O.getD k 0 = O[k] := by simp [List.getD, hk]
          have q2 : (m.moved O).size k = m.size (O[k]).toNat := by simp [Mdl.moved, Mdl.size, List.getD, hk]
          show (List.range ((m.moved O).size k).toNat).map _ = (List.range (m.size (O.getD k 0).toNat).toNat).map _
          rw [q1, q2, idx_getI o.nodup hk]
      have e3 := eq (List.range O.length) fun k hk => List.mem_range.mp hk
      have e4 : ((List.range O.length).map fun k => O.getD k 0).flatMap F = (List.range O.length).flatMap fun k => F (O.getD k 0) := List.flatMap_map ..
      rw [← this] at e4
      rw [e4]
      exact e3
    have e2 : (nmap (List.range m.rows.length)).flatMap F = m.people.map fun p => ((O.idxOf p.1 : Int), p.2) := by
      unfold nmap Mdl.people Mdl.seg
      rw [List.flatMap_map, List.map_flatMap]
      refine congrArg (fun f => List.flatMap f (List.range m.rows.length)) (funext fun k => ?_)
      rw [List.map_map]
      rfl
    rw [e1, ← e2]
    exact o.perm.flatMap_right F
  · have : (m.moved O).nouns (O.idxOf a.1 : Nat) = m.nouns a.1 := by
      show ((O.map fun o => m.rows.getD o.toNat (0, [])).getD ((O.idxOf a.1 : Nat) : Int).toNat (0, [])).2 = _
      rw [Int.toNat_natCast, getO a ha]
      rfl
    rw [this]
  · by_cases e : a = b
    · subst e
      rw [does_self, does_self]
      have hk : v.toNat < m.selfs.length := by rw [h.selfs]; have := hv.1; have := hv.2; omega
      have e1 : (m.moved O).sr v = mvL O (m.sr v) := by
        unfold Mdl.sr Mdl.moved
        simp [List.getD, hk]
      have e2 : m.sr v ∈ m.selfs := by
        unfold Mdl.sr
        simp [List.getD, hk]
      unfold Mdl.slf
      rw [e1, Bool.eq_iff_iff, decide_eq_true_eq, decide_eq_true_eq]
      exact mem_mvL (inO a ha) fun x hx => o.mem.mpr (h.self _ e2 x hx)
    · have e' : ((O.idxOf a.1 : Int), a.2) ≠ ((O.idxOf b.1 : Int), b.2) := fun z => e (inj a ha b hb z)
      rw [does_other e, does_other e']
      have hk : v.toNat < m.verbs.length := by rw [h.verbs]; have := hv.1; have := hv.2; omega
      have e1 : (m.moved O).vr v = O.map fun o => mvL O (gL (m.vr v) o) := by
        unfold Mdl.vr Mdl.moved
        simp [List.getD, hk]
      have e2 : m.vr v ∈ m.verbs := by
        unfold Mdl.vr
        simp [List.getD, hk]
      have e3 : (m.moved O).vrr v (O.idxOf a.1 : Nat) = mvL O (m.vrr v a.1) := by
        unfold Mdl.vrr
        rw [e1, Int.toNat_natCast, getO a ha]
        rfl
      unfold Mdl.rel
      rw [e3, Bool.eq_iff_iff, decide_eq_true_eq, decide_eq_true_eq]
      exact mem_mvL (inO b hb) (row_in h o e2 (inO a ha)).2
theorem forL_inv {g : Tg} {b : Ss} {I : S → Prop} {ds : List D} {s : S} (hi : I s) (h : ∀ d ∈ ds, ∀ s, I s → ∃ s', ((g d s).bind fun _ s1 => b s1) = .ok .nx s' ∧ I s') : ∃ s', forL g b ds s = .ok .nx s' ∧ I s' := by
  obtain ⟨s', e, k⟩ := forL_acc (seg := fun _ => []) (I := fun _ s => I s) (ds := ds) (acc := []) hi (by rw [List.flatMap_eq_nil_iff.mpr (fun _ _ => rfl)]; simp) fun d hd acc s hs _ => h d hd s hs
  exact ⟨s', e, k⟩
theorem seq {f g : Ss} {s s1 : S} (h : f s = .ok .nx s1) : sCons f g s = g s1 := by
  rw [sCons_eq, h]
  rfl
theorem bools2 (a b : Bool) : boolsD [.bl a, .bl b] = some [a, b] := rfl
def everyS (n v : Nat) : List Sen :=
  (([0, 2, 3, 1, 4, 5].flatMap fun w => (zts n).flatMap fun x => (zts n).map fun y => Sen.nn w x y) ++
  ([0, 1].flatMap fun q => (zts n).flatMap fun x => [true, false].flatMap fun d => (zts v).flatMap fun u => [true, false].flatMap fun b => [0, 1].flatMap fun p => (zts n).map fun y => Sen.vb q x d u b p y)) ++
  ([0, 1].flatMap fun q => (zts n).flatMap fun x => [true, false].flatMap fun d => (zts v).map fun u => Sen.se q x d u)
theorem every_ok {g : Sig} {z : Sen} (h : z ∈ everyS g.n.toNat g.v.toNat) : z.ok g := by
  have gn := g.hn
  have gv := g.hv
  have n1 : ∀ {x : Int}, x ∈ zts g.n.toNat → isN g x := fun hx => by have := mem_zts.mp hx; exact ⟨this.1, by omega⟩
  have v1 : ∀ {x : Int}, x ∈ zts g.v.toNat → isV g x := fun hx => by have := mem_zts.mp hx; exact ⟨this.1, by omega⟩
  have q1 : ∀ {q : Nat}, q ∈ [0, 1] → q < 2 := fun hq => by simp only [List.mem_cons, List.not_mem_nil, or_false] at hq; omega
  rcases List.mem_append.mp h with h | h
  · rcases List.mem_append.mp h with h | h
    · obtain ⟨w, hw, h⟩ := List.mem_flatMap.mp h
      obtain ⟨x, hx, h⟩ := List.mem_flatMap.mp h
      obtain ⟨y, hy, rfl⟩ := List.mem_map.mp h
      simp only [List.mem_cons, List.not_mem_nil, or_false] at hw
      exact ⟨by omega, n1 hx, n1 hy⟩
    · obtain ⟨q, hq, h⟩ := List.mem_flatMap.mp h
      obtain ⟨x, hx, h⟩ := List.mem_flatMap.mp h
      obtain ⟨d, hd, h⟩ := List.mem_flatMap.mp h
      obtain ⟨u, hu, h⟩ := List.mem_flatMap.mp h
      obtain ⟨b, hb, h⟩ := List.mem_flatMap.mp h
      obtain ⟨p, hp, h⟩ := List.mem_flatMap.mp h
      obtain ⟨y, hy, rfl⟩ := List.mem_map.mp h
      exact ⟨q1 hq, n1 hx, v1 hu, q1 hp, n1 hy⟩
  · obtain ⟨q, hq, h⟩ := List.mem_flatMap.mp h
    obtain ⟨x, hx, h⟩ := List.mem_flatMap.mp h
    obtain ⟨d, hd, h⟩ := List.mem_flatMap.mp h
    obtain ⟨u, hu, rfl⟩ := List.mem_map.mp h
    exact ⟨q1 hq, n1 hx, v1 hu⟩
theorem l_every {g : Sig} {cs : List Cell} (hg : five g) : F__law_every [g.d] cs = .ok (.lst ((everyS g.n.toNat g.v.toNat).map Sen.d)) ⟨[], cs⟩ := by
  rcases hg with rfl | rfl | rfl | rfl | rfl <;> kernel_rfl!
/-! ## the program's words -/
def tell (m k : Mdl) (z : Sen) : Bool := z.gh m != z.gh k
theorem p_order {g : Sig} {cs : List Cell} (hg : five g) : F_sentences_in_order [g.d] cs = .ok (.lst ((everyS g.n.toNat g.v.toNat).map Sen.d)) ⟨[], cs⟩ := by
  rcases hg with rfl | rfl | rfl | rfl | rfl <;> kernel_rfl!
theorem p_both {g : Sig} {m k : Mdl} {cs : List Cell} (h : m.gd g) (h' : k.gd g) : F__check_both [g.d, m.d, k.d] cs = .ok .non ⟨[], cs⟩ := by
  have e1 := fun nm => p_check_model (nm := nm) (cs := cs) h
  have e2 := fun nm => p_check_model (nm := nm) (cs := cs) h'
  simp [F__check_both, B__check_both, p_check_signature, e1, e2]
theorem p_telling {g : Sig} {m k : Mdl} {z : Sen} {cs : List Cell} (h : m.ok g) (h' : k.ok g) (hz : z.ok g) : F__is_telling [m.d, k.d, z.d] cs = .ok (.bl (tell m k z)) ⟨[], cs⟩ := by
  have e1 := p_gh (cs := cs) h hz
  have e2 := p_gh (cs := cs) h' hz
  simp [F__is_telling, B__is_telling, e1, e2, tell]
  cases z.gh m <;> cases z.gh k <;> rfl
theorem p_first_telling {g : Sig} {m k : Mdl} {zs : List Sen} {cs : List Cell} (h : m.ok g) (h' : k.ok g) (hz : ∀ z ∈ zs, z.ok g) : F__first_telling [m.d, k.d, .lst (zs.map Sen.d)] cs = .ok (optD (zs.find? (tell m k))) ⟨[], cs⟩ := by
  have key : ∀ (ys : List Sen) (x : Slot), (∀ z ∈ ys, z.ok g) → ∃ x', forL (gN 3) (sIf (tU (eCall (F__is_telling) (aCons (eV 0) (aCons (eV 1) (aCons (eV 3) (aNil)))))) (sRet (eV 3)) (sNil)) (ys.map Sen.d) ⟨[.sv m.d, .sv k.d, .sv (.lst (zs.map Sen.d)), x], cs⟩ =
      .ok (match ys.find? (tell m k) with | none => .nx | some z => .rt z.d) ⟨[.sv m.d, .sv k.d, .sv (.lst (zs.map Sen.d)), x'], cs⟩ := by
    intro ys
    induction ys with
    | nil => intro x _; exact ⟨x, by simp⟩
    | cons z ys ih =>
      intro x hy
      have e := p_telling (cs := cs) h h' (hy z List.mem_cons_self)
      cases ht : tell m k z with
      | true => exact ⟨.sv z.d, by simp [e, ht]⟩
      | false =>
        obtain ⟨x', e2⟩ := ih (.sv z.d) fun y hyy => hy y (List.mem_cons_of_mem _ hyy)
        refine ⟨x', ?_⟩
        rw [List.map_cons, forL_cons, List.find?_cons_of_neg (by rw [ht]; decide), ← e2]
        simp [e, ht]
  obtain ⟨x', e⟩ := key zs .un hz
  cases hf : zs.find? (tell m k) with
  | none =>
    rw [hf] at e
    simp [F__first_telling, B__first_telling, e, optD]
  | some z =>
    rw [hf] at e
    simp [F__first_telling, B__first_telling, e, optD]
theorem p_told {g : Sig} {m k : Mdl} {cs : List Cell} (hg : five g) (h : m.gd g) (h' : k.gd g) : F_told_sentence [g.d, m.d, k.d] cs = .ok (optD ((everyS g.n.toNat g.v.toNat).find? (tell m k))) ⟨[], cs⟩ := by
  have e := p_first_telling (zs := everyS g.n.toNat g.v.toNat) (cs := cs) h.took h'.took fun z hz => every_ok hz
  simp [F_told_sentence, B_told_sentence, p_both h h', p_order hg, e]
theorem non_opt (o : Option Sen) : isNon (optD o) = o.isNone := by
  cases o with
  | none => rfl
  | some z => cases z <;> rfl
theorem p_agree {g : Sig} {m k : Mdl} {cs : List Cell} (hg : five g) (h : m.gd g) (h' : k.gd g) : F_agree [g.d, m.d, k.d] cs = .ok (.bl ((everyS g.n.toNat g.v.toNat).find? (tell m k)).isNone) ⟨[], cs⟩ := by
  have e := p_first_telling (zs := everyS g.n.toNat g.v.toNat) (cs := cs) h.took h'.took fun z hz => every_ok hz
  simp [F_agree, B_agree, p_both h h', p_order hg, e, non_opt]
/-! ## unions -/
def mv (n : Int) (l : List Int) : List Int := l.map (· + n)
def Mdl.un (m k : Mdl) : Mdl := ⟨m.rows ++ k.rows, List.zipWith (fun r o => r ++ o.map (mv m.rows.length)) m.verbs k.verbs, List.zipWith (fun a b => a ++ mv m.rows.length b) m.selfs k.selfs⟩
theorem mem_mv {n x : Int} {l : List Int} : x ∈ mv n l ↔ x - n ∈ l := by
  unfold mv
  rw [List.mem_map]
  constructor
  · rintro ⟨a, h, rfl⟩
    rw [Int.add_sub_cancel]
    exact h
  · intro h
    exact ⟨x - n, h, by omega⟩
theorem mv_asc {n : Int} {l : List Int} (h : Asc l) : Asc (mv n l) := by
  unfold mv Asc
  rw [List.pairwise_map]
  exact h.imp fun {a b} hab => by omega
theorem asc_app {a b : List Int} {n : Int} (ha : Asc a) (hb : Asc b) (h : ∀ x ∈ a, x < n) (h' : ∀ x ∈ b, n ≤ x) : Asc (a ++ b) :=
  List.pairwise_append.mpr ⟨ha, hb, fun x hx y hy => by have := h x hx; have := h' y hy; omega⟩
theorem mem_zipWith {α β γ : Type} {f : α → β → γ} : ∀ {l : List α} {m : List β} {c : γ}, c ∈ List.zipWith f l m → ∃ a ∈ l, ∃ b ∈ m, c = f a b
  | [], _, _, h => by simp at h
  | _ :: _, [], _, h => by simp at h
  | a :: l, b :: m, c, h => by
    rw [List.zipWith_cons_cons, List.mem_cons] at h
    rcases h with rfl | h
    · exact ⟨a, List.mem_cons_self, b, List.mem_cons_self, rfl⟩
    · obtain ⟨a', ha, b', hb, e⟩ := mem_zipWith h
      exact ⟨a', List.mem_cons_of_mem _ ha, b', List.mem_cons_of_mem _ hb, e⟩
theorem un_gd {g : Sig} {m k : Mdl} (h : m.gd g) (h' : k.gd g) (hl : m.rows.length ≤ 4) (hl' : k.rows.length ≤ 4) : (m.un k).gd g := by
  have hlen : (m.un k).rows.length = m.rows.length + k.rows.length := List.length_append
  refine ⟨⟨fun r hr => ?_, by rw [hlen]; omega, ?_, fun r hr => ?_, ?_, fun l hl x hx => ?_⟩, fun r hr => ?_, fun r hr l hl => ?_, fun l hl => ?_⟩
  · rcases List.mem_append.mp hr with hr | hr
    · exact h.rows r hr
    · exact h'.rows r hr
  · show (List.zipWith _ m.verbs k.verbs).length = _
    rw [List.length_zipWith, h.verbs, h'.verbs, Nat.min_self]
  · obtain ⟨a, ha, b, hb, rfl⟩ := mem_zipWith hr
    obtain ⟨a1, a2⟩ := h.rel a ha
    obtain ⟨b1, b2⟩ := h'.rel b hb
    refine ⟨by rw [hlen, List.length_append, List.length_map, a1, b1], fun l hl x hx => ?_⟩
    rw [hlen]
    rcases List.mem_append.mp hl with hl | hl
    · have := a2 l hl x hx
      omega
    · obtain ⟨l', hl', rfl⟩ := List.mem_map.mp hl
      have := b2 l' hl' _ (mem_mv.mp hx)
      omega
  · show (List.zipWith _ m.selfs k.selfs).length = _
    rw [List.length_zipWith, h.selfs, h'.selfs, Nat.min_self]
  · obtain ⟨a, ha, b, hb, rfl⟩ := mem_zipWith hl
    rw [hlen]
    rcases List.mem_append.mp hx with hx | hx
    · have := h.self a ha x hx
      omega
    · have := h'.self b hb _ (mem_mv.mp hx)
      omega
  · rcases List.mem_append.mp hr with hr | hr
    · exact h.rasc r hr
    · exact h'.rasc r hr
  · obtain ⟨a, ha, b, hb, rfl⟩ := mem_zipWith hr
    rcases List.mem_append.mp hl with hl | hl
    · exact h.vasc a ha l hl
    · obtain ⟨l', hl', rfl⟩ := List.mem_map.mp hl
      exact mv_asc (h'.vasc b hb l' hl')
  · obtain ⟨a, ha, b, hb, rfl⟩ := mem_zipWith hl
    exact asc_app (n := m.rows.length) (h.sasc a ha) (mv_asc (h'.sasc b hb)) (fun x hx => (h.self a ha x hx).2) fun x hx => by
      have := h'.self b hb _ (mem_mv.mp hx)
      omega
/-! what is in a union -/
section
variable {g : Sig} {m k : Mdl} (h : m.gd g) (h' : k.gd g)
theorem getD_app_l {α : Type} {a b : List α} {i : Nat} {d : α} (h : i < a.length) : (a ++ b).getD i d = a.getD i d := by
  simp only [List.getD, List.getElem?_append_left h]
theorem getD_app_r {α : Type} {a b : List α} {i : Nat} {d : α} : (a ++ b).getD (a.length + i) d = b.getD i d := by
  simp only [List.getD, List.getElem?_append_right (Nat.le_add_right a.length i), Nat.add_sub_cancel_left]
theorem un_nouns_l {i : Int} (h0 : 0 ≤ i) (h1 : i < m.rows.length) : (m.un k).nouns i = m.nouns i := by
  show ((m.rows ++ k.rows).getD i.toNat (0, [])).2 = _
  rw [getD_app_l (by omega)]
  rfl
theorem un_nouns_r {i : Int} (h0 : 0 ≤ i) : (m.un k).nouns (i + m.rows.length) = k.nouns i := by
  show ((m.rows ++ k.rows).getD (i + m.rows.length).toNat (0, [])).2 = _
  rw [show (i + (m.rows.length : Int)).toNat = m.rows.length + i.toNat from by omega, getD_app_r]
  rfl
theorem un_size_l {i : Nat} (h1 : i < m.rows.length) : (m.un k).size i = m.size i := by
  show ((m.rows ++ k.rows).getD i (0, [])).1 = _
  rw [getD_app_l h1]
  rfl
theorem un_size_r {i : Nat} : (m.un k).size (m.rows.length + i) = k.size i := by
  show ((m.rows ++ k.rows).getD (m.rows.length + i) (0, [])).1 = _
  rw [getD_app_r]
  rfl
include h h' in
theorem un_vr {v : Int} (hv : isV g v) : (m.un k).vr v = m.vr v ++ (k.vr v).map (mv m.rows.length) := by
  obtain ⟨h0, h1⟩ := hv
  have e1 : v.toNat < m.verbs.length := by rw [h.verbs]; omega
  have e2 : v.toNat < k.verbs.length := by rw [h'.verbs]; omega
  show (List.zipWith _ m.verbs k.verbs).getD v.toNat [] = m.verbs.getD v.toNat [] ++ (k.verbs.getD v.toNat []).map _
  simp [List.getD, List.getElem?_zipWith, e1, e2]
include h h' in
theorem un_sr {v : Int} (hv : isV g v) : (m.un k).sr v = m.sr v ++ mv m.rows.length (k.sr v) := by
  obtain ⟨h0, h1⟩ := hv
  have e1 : v.toNat < m.selfs.length := by rw [h.selfs]; omega
  have e2 : v.toNat < k.selfs.length := by rw [h'.selfs]; omega
  show (List.zipWith _ m.selfs k.selfs).getD v.toNat [] = m.selfs.getD v.toNat [] ++ mv _ (k.selfs.getD v.toNat [])
  simp [List.getD, List.getElem?_zipWith, e1, e2]
theorem sr_in {g : Sig} {m : Mdl} (h : m.gd g) {v : Int} (hv : isV g v) : m.sr v ∈ m.selfs := by
  obtain ⟨h0, h1⟩ := hv
  have e1 : v.toNat < m.selfs.length := by rw [h.selfs]; omega
  unfold Mdl.sr
  simp [List.getD, e1]
theorem vr_in {g : Sig} {m : Mdl} (h : m.gd g) {v : Int} (hv : isV g v) : m.vr v ∈ m.verbs := by
  obtain ⟨h0, h1⟩ := hv
  have e1 : v.toNat < m.verbs.length := by rw [h.verbs]; omega
  unfold Mdl.vr
  simp [List.getD, e1]
theorem vr_len {g : Sig} {m : Mdl} (h : m.gd g) {v : Int} (hv : isV g v) : (m.vr v).length = m.rows.length := (h.rel _ (vr_in h hv)).1
theorem vrr_in {g : Sig} {m : Mdl} (h : m.gd g) {v a : Int} (hv : isV g v) (h0 : 0 ≤ a) (h1 : a < m.rows.length) : m.vrr v a ∈ m.vr v := by
  have := vr_len h hv
  unfold Mdl.vrr
  have e : a.toNat < (m.vr v).length := by omega
  simp [List.getD, e]
include h h' in
theorem un_slf_l {v i : Int} (hv : isV g v) (h1 : i < m.rows.length) : (m.un k).slf v i = m.slf v i := by
  unfold Mdl.slf
  rw [un_sr h h' hv]
  have : i ∈ m.sr v ++ mv m.rows.length (k.sr v) ↔ i ∈ m.sr v := by
    rw [List.mem_append, mem_mv]
    constructor
    · rintro (hi | hi)
      · exact hi
      · have := (h'.self _ (sr_in h' hv) _ hi).1
        omega
    · exact .inl
  simp only [this]
include h h' in
theorem un_slf_r {v i : Int} (hv : isV g v) (h0 : 0 ≤ i) : (m.un k).slf v (i + m.rows.length) = k.slf v i := by
  unfold Mdl.slf
  rw [un_sr h h' hv]
  have : i + (m.rows.length : Int) ∈ m.sr v ++ mv m.rows.length (k.sr v) ↔ i ∈ k.sr v := by
    rw [List.mem_append, mem_mv, Int.add_sub_cancel]
    constructor
    · rintro (hi | hi)
      · have := (h.self _ (sr_in h hv) _ hi).2
        omega
      · exact hi
    · exact .inr
  simp only [this]
include h h' in
theorem un_vrr_l {v a : Int} (hv : isV g v) (h0 : 0 ≤ a) (h1 : a < m.rows.length) : (m.un k).vrr v a = m.vrr v a := by
  unfold Mdl.vrr
  rw [un_vr h h' hv, getD_app_l (by rw [vr_len h hv]; omega)]
include h h' in
theorem un_vrr_r {v a : Int} (hv : isV g v) (h0 : 0 ≤ a) (h1 : a < k.rows.length) : (m.un k).vrr v (a + m.rows.length) = mv m.rows.length (k.vrr v a) := by
  unfold Mdl.vrr
  have e : a.toNat < (k.vr v).length := by rw [vr_len h' hv]; omega
  rw [un_vr h h' hv, show (a + (m.rows.length : Int)).toNat = (m.vr v).length + a.toNat from by rw [vr_len h hv]; omega, getD_app_r]
  simp [List.getD, e]
include h h' in
theorem un_rel_ll {v a b : Int} (hv : isV g v) (h0 : 0 ≤ a) (h1 : a < m.rows.length) : (m.un k).rel v a b = m.rel v a b := by
  unfold Mdl.rel
  rw [un_vrr_l h h' hv h0 h1]
include h h' in
theorem un_rel_lr {v a b : Int} (hv : isV g v) (h0 : 0 ≤ a) (h1 : a < m.rows.length) (hb : 0 ≤ b) : (m.un k).rel v a (b + m.rows.length) = false := by
  rw [un_rel_ll h h' hv h0 h1]
  unfold Mdl.rel
  rw [decide_eq_false_iff_not]
  intro hm
  have := ((h.rel _ (vr_in h hv)).2 _ (vrr_in h hv h0 h1) _ hm).2
  omega
include h h' in
theorem un_rel_rr {v a b : Int} (hv : isV g v) (h0 : 0 ≤ a) (h1 : a < k.rows.length) : (m.un k).rel v (a + m.rows.length) (b + m.rows.length) = k.rel v a b := by
  unfold Mdl.rel
  rw [un_vrr_r h h' hv h0 h1]
  simp only [mem_mv, Int.add_sub_cancel]
include h h' in
theorem un_rel_rl {v a b : Int} (hv : isV g v) (h0 : 0 ≤ a) (h1 : a < k.rows.length) (hb : b < m.rows.length) : (m.un k).rel v (a + m.rows.length) b = false := by
  unfold Mdl.rel
  rw [un_vrr_r h h' hv h0 h1, decide_eq_false_iff_not, mem_mv]
  intro hm
  have := ((h'.rel _ (vr_in h' hv)).2 _ (vrr_in h' hv h0 h1) _ hm).1
  omega
theorem zts_app (a b : Nat) : zts (a + b) = zts a ++ mv a (zts b) := by
  unfold zts mv
  rw [List.range_add, List.map_append, List.map_map, List.map_map]
  congr 1
  exact List.map_congr_left fun x _ => by simp only [Function.comp]; omega
theorem un_having (x : Int) : (m.un k).having x = m.having x ++ mv m.rows.length (k.having x) := by
  have hlen : (m.un k).rows.length = m.rows.length + k.rows.length := List.length_append
  unfold Mdl.having
  rw [hlen, zts_app, List.filter_append]
  congr 1
  · exact List.filter_congr fun i hi => by
      obtain ⟨h0, h1⟩ := mem_zts.mp hi
      rw [un_nouns_l h0 h1]
  · unfold mv
    rw [List.filter_map]
    congr 1
    exact List.filter_congr fun i hi => by
      obtain ⟨h0, h1⟩ := mem_zts.mp hi
      simp only [Function.comp, un_nouns_r h0]
theorem un_gsize (x : Int) : (m.un k).gsize x = m.gsize x + k.gsize x := by
  unfold Mdl.gsize
  rw [un_having, List.map_append, List.sum_append]
  congr 1
  · exact congrArg List.sum (List.map_congr_left fun i hi => by
      obtain ⟨⟨h0, h1⟩, _⟩ := mem_having.mp hi
      exact un_size_l (by omega))
  · unfold mv
    rw [List.map_map]
    exact congrArg List.sum (List.map_congr_left fun i hi => by
      obtain ⟨⟨h0, h1⟩, _⟩ := mem_having.mp hi
      simp only [Function.comp]
      rw [show (i + (m.rows.length : Int)).toNat = m.rows.length + i.toNat from by omega, un_size_r])
theorem flat_congr {α β : Type} {f f' : α → List β} : ∀ {l : List α}, (∀ x ∈ l, f x = f' x) → l.flatMap f = l.flatMap f'
  | [], _ => rfl
  | x :: l, h => by rw [List.flatMap_cons, List.flatMap_cons, h x List.mem_cons_self, flat_congr fun y hy => h y (List.mem_cons_of_mem _ hy)]
theorem flatMap_false {l : List Int} {f : Int → List Bool} (h : ∀ o ∈ l, f o = [false]) : l.flatMap f = List.replicate l.length false := by
  induction l with
  | nil => rfl
  | cons o l ih =>
    rw [List.flatMap_cons, h o List.mem_cons_self, ih fun p hp => h p (List.mem_cons_of_mem _ hp)]
    rfl
include h h' in
theorem un_seen_l {i v y : Int} {b : Bool} (hv : isV g v) (h0 : 0 ≤ i) (h1 : i < m.rows.length) : (m.un k).seen i v b y = m.seen i v b y ++ List.replicate (k.having y).length false := by
  unfold Mdl.seen
  rw [un_having, List.flatMap_append]
  congr 1
  · refine flat_congr fun o ho => ?_
    obtain ⟨⟨o0, o1⟩, _⟩ := mem_having.mp ho
    unfold Mdl.one
    rw [un_slf_l h h' hv h1, un_size_l (by omega), un_rel_ll h h' hv o0 o1, un_rel_ll h h' hv h0 h1]
  · rw [show (k.having y).length = (mv m.rows.length (k.having y)).length from by unfold mv; rw [List.length_map]]
    refine flatMap_false fun o ho => ?_
    obtain ⟨⟨o0, o1⟩, _⟩ := mem_having.mp (mem_mv.mp ho)
    unfold Mdl.one
    rw [if_neg (by omega), if_pos (.inl (by omega))]
    have e1 := un_rel_lr h h' hv h0 h1 o0
    have e2 := un_rel_rl h h' hv o0 o1 h1
    rw [Int.sub_add_cancel] at e1 e2
    rw [e1, e2]
    cases b <;> rfl
include h h' in
theorem un_seen_r {i v y : Int} {b : Bool} (hv : isV g v) (h0 : 0 ≤ i) (h1 : i < k.rows.length) : (m.un k).seen (i + m.rows.length) v b y = List.replicate (m.having y).length false ++ k.seen i v b y := by
  unfold Mdl.seen
  rw [un_having, List.flatMap_append]
  congr 1
  · refine flatMap_false fun o ho => ?_
    obtain ⟨⟨o0, o1⟩, _⟩ := mem_having.mp ho
    unfold Mdl.one
    rw [if_neg (by omega), if_pos (.inl (by omega))]
    rw [un_rel_lr h h' hv o0 o1 h0, un_rel_rl h h' hv h0 h1 o1]
    cases b <;> rfl
  · unfold mv
    rw [List.flatMap_map]
    refine flat_congr fun o ho => ?_
    obtain ⟨⟨o0, o1⟩, _⟩ := mem_having.mp ho
    unfold Mdl.one
    rw [un_slf_r h h' hv h0, show (i + (m.rows.length : Int)).toNat = m.rows.length + i.toNat from by omega, un_size_r, un_rel_rr h h' hv o0 o1, un_rel_rr h h' hv h0 h1]
    have e : (o + (m.rows.length : Int) = i + m.rows.length) ↔ o = i := by omega
    simp only [e, ne_eq]
/-- what the new ones say does not matter -/
def Sen.calm : Sen → Bool
  | .nn w _ _ => decide (w < 4)
  | .se _ _ _ _ => true
  | .vb _ _ d _ _ p _ => d == (p == 1)
include h h' in
theorem un_gs_l {z : Sen} {i : Int} (hz : z.ok g) (hc : z.calm = true) (h0 : 0 ≤ i) (h1 : i < m.rows.length) : z.gs (m.un k) i = z.gs m i := by
  cases z with
  | nn w x y => simp only [Sen.gs, un_nouns_l h0 h1]
  | se q x d v => simp only [Sen.gs, un_slf_l h h' hz.2.2 h1]
  | vb q x d v b p y =>
    simp only [Sen.gs, un_seen_l h h' hz.2.2.1 h0 h1]
    simp only [Sen.calm, beq_iff_eq] at hc
    rcases w2 hz.2.2.2.1 with rfl | rfl
    · have : d = false := by simpa using hc
      subst this
      simp
    · have : d = true := by simpa using hc
      subst this
      simp
include h h' in
theorem un_gs_r {z : Sen} {i : Int} (hz : z.ok g) (hc : z.calm = true) (h0 : 0 ≤ i) (h1 : i < k.rows.length) : z.gs (m.un k) (i + m.rows.length) = z.gs k i := by
  cases z with
  | nn w x y => simp only [Sen.gs, un_nouns_r h0]
  | se q x d v => simp only [Sen.gs, un_slf_r h h' hz.2.2 h0]
  | vb q x d v b p y =>
    simp only [Sen.gs, un_seen_r h h' hz.2.2.1 h0 h1]
    simp only [Sen.calm, beq_iff_eq] at hc
    rcases w2 hz.2.2.2.1 with rfl | rfl
    · have : d = false := by simpa using hc
      subst this
      simp
    · have : d = true := by simpa using hc
      subst this
      simp
include h h' in
theorem un_all {z : Sen} (hz : z.ok g) (hc : z.calm = true) (x : Int) : ((m.un k).having x).all (z.gs (m.un k)) = ((m.having x).all (z.gs m) && (k.having x).all (z.gs k)) := by
  rw [un_having, List.all_append]
  congr 1
  · exact Bool.eq_iff_iff.mpr (by
      simp only [List.all_eq_true]
      exact forall_congr' fun i => forall_congr' fun hi => by
        obtain ⟨⟨h0, h1⟩, _⟩ := mem_having.mp hi
        rw [un_gs_l h h' hz hc h0 h1])
  · unfold mv
    rw [List.all_map]
    exact Bool.eq_iff_iff.mpr (by
      simp only [List.all_eq_true]
      exact forall_congr' fun i => forall_congr' fun hi => by
        obtain ⟨⟨h0, h1⟩, _⟩ := mem_having.mp hi
        simp only [Function.comp]
        rw [un_gs_r h h' hz hc h0 h1])
include h h' in
theorem un_any {z : Sen} (hz : z.ok g) (hc : z.calm = true) (x : Int) : ((m.un k).having x).any (z.gs (m.un k)) = ((m.having x).any (z.gs m) || (k.having x).any (z.gs k)) := by
  have e : ∀ (m : Mdl), (m.having x).any (z.gs m) = !(m.having x).all fun i => !z.gs m i := fun m => by rw [List.not_all_eq_any_not]; simp
  rw [un_having, List.any_append]
  congr 1
  · exact Bool.eq_iff_iff.mpr (by
      simp only [List.any_eq_true]
      exact exists_congr fun i => and_congr_right fun hi => by
        obtain ⟨⟨h0, h1⟩, _⟩ := mem_having.mp hi
        rw [un_gs_l h h' hz hc h0 h1])
  · unfold mv
    rw [List.any_map]
    exact Bool.eq_iff_iff.mpr (by
      simp only [List.any_eq_true]
      exact exists_congr fun i => and_congr_right fun hi => by
        obtain ⟨⟨h0, h1⟩, _⟩ := mem_having.mp hi
        simp only [Function.comp]
        rw [un_gs_r h h' hz hc h0 h1])
/-- 9: both, 8: one, 15: free -/
def Sen.rule : Sen → Nat
  | .nn w _ _ => if w = 0 ∨ w = 3 then 9 else if w = 1 ∨ w = 2 then 8 else 15
  | .se q _ _ _ => if q = 0 then 9 else 8
  | .vb q _ d _ _ p _ => if d == (p == 1) then (if q = 0 then 9 else 8) else 15
include h h' in
theorem un_both {z : Sen} (hz : z.ok g) (hr : z.rule = 9) : z.gh (m.un k) = (z.gh m && z.gh k) := by
  cases z with
  | nn w x y =>
    rcases w6 hz.1 with rfl | rfl | rfl | rfl | rfl | rfl <;> simp [Sen.rule] at hr
    · simp [Sen.gh, un_all h h' hz rfl]
    · simp [Sen.gh, un_any h h' hz rfl]
  | se q x d v =>
    rcases w2 hz.1 with rfl | rfl <;> simp [Sen.rule] at hr
    simp [Sen.gh, un_all h h' hz rfl]
  | vb q x d v b p y =>
    have hc : (Sen.vb q x d v b p y).calm = true := by
      simp only [Sen.rule] at hr
      split at hr
      · assumption
      · cases hr
    rcases w2 hz.1 with rfl | rfl
    · simp [Sen.gh, un_all h h' hz hc]
    · simp only [Sen.rule] at hr
      split at hr <;> simp at hr
include h h' in
theorem un_one {z : Sen} (hz : z.ok g) (hr : z.rule = 8) : z.gh (m.un k) = (z.gh m || z.gh k) := by
  cases z with
  | nn w x y =>
    rcases w6 hz.1 with rfl | rfl | rfl | rfl | rfl | rfl <;> simp [Sen.rule] at hr
    · simp [Sen.gh, un_any h h' hz rfl]
    · simp [Sen.gh, un_all h h' hz rfl]
  | se q x d v =>
    rcases w2 hz.1 with rfl | rfl <;> simp [Sen.rule] at hr
    simp [Sen.gh, un_any h h' hz rfl]
  | vb q x d v b p y =>
    have hc : (Sen.vb q x d v b p y).calm = true := by
      simp only [Sen.rule] at hr
      split at hr
      · assumption
      · cases hr
    rcases w2 hz.1 with rfl | rfl
    · simp only [Sen.rule] at hr
      split at hr <;> simp at hr
    · simp [Sen.gh, un_any h h' hz hc]
theorem un_many {x y : Int} (h1 : (Sen.nn 4 x y).gh m = true) (h2 : (Sen.nn 4 x y).gh k = true) : (Sen.nn 4 x y).gh (m.un k) = true := by
  simp only [Sen.gh, if_true, decide_eq_true_eq] at h1 h2 ⊢
  rw [un_gsize, un_gsize]
  omega
end
/-! ## the program's union -/
theorem p_moved {l : List Int} {n : Int} {cs : List Cell} (hl : l.length ≤ 1000) : F__moved [intT l, .int n] cs = .ok (intT (mv n l)) ⟨[], cs⟩ := by
  have e : ∀ s1 : S, s1 = ⟨[.sv (intT l), .sv (.int n), .un], cs⟩ → (aLc [2] (iSeq (eV 0)) (gN 2) (tYes) (eOp addD (eV 2) (eVB 1))) s1 = .ok (l.map fun x => D.int (x + n)) s1 := by
    rintro s1 rfl
    exact lcM (inj := D.int) l (fun x => .int (x + n)) (by simp [intT]) (by omega) (by simp) fun x hx => by simp
  have e := e _ rfl
  simp only [intT] at e ⊢
  simp [F__moved, B__moved, e, mv]
theorem add_rel {a b : List (List Int)} (h : a.length + b.length ≤ 100000) : addD (relD a) (relD b) = some (relD (a ++ b)) := by
  unfold relD
  rw [x_addT, if_pos (by simp only [List.length_map]; exact h), List.map_append]
theorem add_int {a b : List Int} (h : a.length + b.length ≤ 100000) : addD (intT a) (intT b) = some (intT (a ++ b)) := by
  unfold intT
  rw [x_addT, if_pos (by simp only [List.length_map]; exact h), List.map_append]
theorem row_len {g : Sig} {m : Mdl} (h : m.gd g) {r : List (List Int)} (hr : r ∈ m.verbs) : r.length ≤ 12 ∧ ∀ l ∈ r, l.length ≤ 12 := by
  have hl := h.len
  obtain ⟨a, b⟩ := h.rel r hr
  refine ⟨by omega, fun l hl2 => ?_⟩
  have := asc_len (h.vasc r hr l hl2) (b l hl2)
  omega
theorem slf_len {g : Sig} {m : Mdl} (h : m.gd g) {l : List Int} (hr : l ∈ m.selfs) : l.length ≤ 12 := by
  have hl := h.len
  have := asc_len (h.sasc l hr) (h.self l hr)
  omega
theorem p_union {g : Sig} {m k : Mdl} {cs : List Cell} (h : m.gd g) (h' : k.gd g) (hl : m.rows.length ≤ 4) (hl' : k.rows.length ≤ 4) : F_union [g.d, m.d, k.d] cs = .ok (m.un k).d ⟨[], cs⟩ := by
  have e0 := p_both (cs := cs) h h'
  have inn : ∀ (r : List (List Int)) (s1 : S) (ρ : List Slot), s1 = ⟨ρ, cs⟩ → ρ[6]? = some (.sv (relD r)) → ρ[3]? = some (.sv (.int m.rows.length)) → 8 < ρ.length → restL ρ [8] ρ = ρ → r.length ≤ 12 → (∀ l ∈ r, l.length ≤ 12) → (aLc [8] (iSeq (eV 6)) (gN 8) (tYes) (eCall (F__moved) (aCons (eV 8) (aCons (eV 3) (aNil))))) s1 = .ok (r.map fun l => intT (mv m.rows.length l)) s1 := by
    rintro r s1 ρ rfl h6 h3 h8 hr hl hl2
    refine lcM (inj := intT) r (fun l => intT (mv m.rows.length l)) (by simp [h6, relD]) (by omega) hr fun l hx => ?_
    have e := p_moved (l := l) (n := m.rows.length) (cs := cs) (by have := hl2 l hx; omega)
    simp [List.getElem?_set, h3, h8, e]
  have key : ∀ (ps : List (List (List Int) × List (List Int))) (acc : List D) (x5 x6 : Slot), acc.length + ps.length ≤ 100 → (∀ p ∈ ps, p.1 ∈ m.verbs ∧ p.2 ∈ k.verbs) → ∃ x5' x6', forL (gT 2 (gCons (gN 5) (gCons (gN 6) (gNil)))) (sApp 4 (eOp addD (eV 5) (eC1 tupD (eF (aLc [8] (iSeq (eV 6)) (gN 8) (tYes) (eCall (F__moved) (aCons (eV 8) (aCons (eV 3) (aNil))))))))) (ps.map fun z => .tup [relD z.1, relD z.2])
      ⟨[.sv g.d, .sv m.d, .sv k.d, .sv (.int m.rows.length), .own acc, x5, x6, .un, .un, .un], cs⟩ = .ok .nx ⟨[.sv g.d, .sv m.d, .sv k.d, .sv (.int m.rows.length), .own (acc ++ ps.map fun z => relD (z.1 ++ z.2.map (mv m.rows.length))), x5', x6', .un, .un, .un], cs⟩ := by
    intro ps
    induction ps with
    | nil => intro acc x5 x6 _ _; exact ⟨x5, x6, by simp⟩
    | cons p ps ih =>
      intro acc x5 x6 hlen hp
      obtain ⟨hp1, hp2⟩ := hp p List.mem_cons_self
      obtain ⟨a1, a2⟩ := row_len h hp1
      obtain ⟨b1, b2⟩ := row_len h' hp2
      rw [List.length_cons] at hlen
      obtain ⟨x5', x6', e⟩ := ih (acc ++ [relD (p.1 ++ p.2.map (mv m.rows.length))]) (.sv (relD p.1)) (.sv (relD p.2)) (by rw [List.length_append]; simp only [List.length_cons, List.length_nil]; omega) fun q hq => hp q (List.mem_cons_of_mem _ hq)
      refine ⟨x5', x6', ?_⟩
      have e2 := inn p.2 _ [.sv g.d, .sv m.d, .sv k.d, .sv (.int m.rows.length), .own acc, .sv (relD p.1), .sv (relD p.2), .un, .un, .un] rfl (by simp) (by simp) (by simp) (by simp) b1 b2
      have e3 : addD (relD p.1) (.tup (p.2.map fun l => intT (mv m.rows.length l))) = some (relD (p.1 ++ p.2.map (mv m.rows.length))) := by
        have := add_rel (a := p.1) (b := p.2.map (mv m.rows.length)) (by rw [List.length_map]; omega)
        rw [← this]
        congr 1
        unfold relD
        rw [List.map_map]
        rfl
      have l1 : acc.length < 100000 := by omega
      rw [List.map_cons, forL_cons]
      simp [e2, e3, l1]
      rw [List.append_assoc] at e
      exact e
  have ve : m.verbs.length = k.verbs.length := by rw [h.verbs, h'.verbs]
  have vl : m.verbs.length ≤ 2 := by rw [h.verbs]; have := g.hv2; omega
  have sl : m.selfs.length ≤ 2 := by rw [h.selfs]; have := g.hv2; omega
  obtain ⟨x5, x6, e1⟩ := key (m.verbs.zip k.verbs) [] .un .un (by rw [List.length_zip]; simp only [List.length_nil]; omega) fun p hp => List.of_mem_zip hp
  rw [← zpD_map, List.nil_append] at e1
  have e2 : ∀ (x4 x5 x6 : Slot) (s1 : S), s1 = ⟨[.sv g.d, .sv m.d, .sv k.d, .sv (.int m.rows.length), x4, x5, x6, .un, .un, .un], cs⟩ → (aLc [8, 9] (iZipT (aCons (eOp ixD (eV 1) (eC (.int 2))) (aCons (eOp ixD (eV 2) (eC (.int 2))) (aNil)))) (gT 2 (gCons (gN 8) (gCons (gN 9) (gNil)))) (tYes) (eOp addD (eV 8) (eCall (F__moved) (aCons (eV 9) (aCons (eV 3) (aNil)))))) s1 = .ok ((m.selfs.zip k.selfs).map fun z => intT (z.1 ++ mv m.rows.length z.2)) s1 := by
    rintro x4 x5 x6 s1 rfl
    refine lcGM (inj := fun z => .tup [intT z.1, intT z.2]) (m.selfs.zip k.selfs) (fun z => ⟨[.sv g.d, .sv m.d, .sv k.d, .sv (.int m.rows.length), x4, x5, x6, .un, .sv (intT z.1), .sv (intT z.2)], cs⟩) (fun z => intT (z.1 ++ mv m.rows.length z.2)) (by simp [Mdl.d, ← zpD_map]) (by rw [List.length_zip]; omega) (by simp) fun z hz => ?_
    obtain ⟨a, b⟩ := List.of_mem_zip hz
    have a1 := slf_len h a
    have b1 := slf_len h' b
    have e := p_moved (l := z.2) (n := m.rows.length) (cs := cs) (by omega)
    have e3 := add_int (a := z.1) (b := mv m.rows.length z.2) (by unfold mv; rw [List.length_map]; omega)
    exact ⟨by simp, by simp [e, e3], by simp⟩
  have e3 := fun x4 x5 x6 => e2 x4 x5 x6 _ rfl
  have n1 : ¬ (40 : Int) < (m.rows.length : Int) + k.rows.length := by omega
  have n2 : m.rows.length + k.rows.length ≤ 100000 := by omega
  have d1 : (m.un k).d = .tup [.tup (m.rows.map rowD ++ k.rows.map rowD), .tup ((m.verbs.zip k.verbs).map fun z => relD (z.1 ++ z.2.map (mv m.rows.length))), .tup ((m.selfs.zip k.selfs).map fun z => intT (z.1 ++ mv m.rows.length z.2))] := by
    unfold Mdl.un Mdl.d
    rw [zipWith_zip, zipWith_zip, List.map_append, List.map_map, List.map_map]
    rfl
  rw [d1]
  simp only [Mdl.d] at e0 e1 e3
  simp [F_union, B_union, Mdl.d, e0, n1, n2, e1, e3]
/-! ## the groups exchanged -/
theorem next_eq2 (s : Strm) (cs : List Cell) (m : Int) (h : 0 < m) (h' : m < 1073741824) : F__law_next [.cell 0, .int m] (s.c :: cs) = .ok (.int (s.val % m)) ⟨[], ((s.nxt m (Int.le_of_lt h)).c :: cs)⟩ := by
  have hb := s.hb
  by_cases h0 : s.a = 0
  · by_cases h1 : s.b < s.ns.length
    · obtain ⟨x, e, hr⟩ : ∃ x, s.ns[s.b.toNat]? = some x ∧ s.raw = if x < 0 then -x else x := by
        have : s.b.toNat < s.ns.length := by omega
        refine ⟨s.ns[s.b.toNat], List.getElem?_eq_getElem this, ?_⟩
        unfold Strm.raw
        rw [if_pos h1]
        simp [List.getD, this]
      by_cases h2 : s.raw < 1000000000000000000
      · simp [F__law_next, B__law_next, Strm.c, Strm.nxt, Strm.val, h0, h1, atI_int hb, e, setAt, ixN, h, h', mix, mix1, ← hr, h2]
      · simp [F__law_next, B__law_next, Strm.c, Strm.nxt, Strm.val, h0, h1, atI_int hb, e, setAt, ixN, h, h', mix, mix1, ← hr, h2]
    · have hr : s.raw = 7 + s.b := by
        unfold Strm.raw
        rw [if_neg h1]
      by_cases h2 : s.raw < 1000000000000000000
      · simp [F__law_next, B__law_next, Strm.c, Strm.nxt, Strm.val, h0, h1, setAt, ixN, h, h', mix, mix1, ← hr, h2]
      · simp [F__law_next, B__law_next, Strm.c, Strm.nxt, Strm.val, h0, h1, setAt, ixN, h, h', mix, mix1, ← hr, h2]
  · skip
    simp [F__law_next, B__law_next, Strm.c, Strm.nxt, Strm.val, h0, setAt, ixN, h, h']
theorem s_next2 (s : Strm) (cs : List Cell) (m : Int) (h : 0 < m) (h' : m < 1073741824) : ∃ x s', F__law_next [.cell 0, .int m] (s.c :: cs) = .ok (.int x) ⟨[], (Strm.c s' :: cs)⟩ ∧ 0 ≤ x ∧ x < m :=
  ⟨_, _, next_eq2 s cs m h h', Int.emod_nonneg _ (by omega), Int.emod_lt_of_pos _ h⟩
theorem getD_inj {O : List Int} (nd : O.Nodup) {i j : Nat} (hi : i < O.length) (hj : j < O.length) (e : O.getD i 0 = O.getD j 0) : i = j := by
  have a : ∀ {k : Nat} (hk : k < O.length), O.getD k 0 = O[k] := fun hk => by simp [List.getD, hk]
  rw [a hi, a hj] at e
  rw [← idx_getI nd hi, ← idx_getI nd hj, e]
theorem getD_idx {O : List Int} {x : Int} (hx : x ∈ O) : O.getD (O.idxOf x) 0 = x := by
  have := idx_lt hx
  simp [List.getD, this]
section
variable {g : Sig} {m : Mdl} {O : List Int} {c : Cell}
theorem place (nd : O.Nodup) (hl : O.length ≤ 1000) {p0 p2 p3 p4 p7 p8 p9 : Slot} : ∃ (l : List (Int × Int)) (x6 : Slot), (x6 = .un ∨ ∃ d, x6 = .sv d) ∧ (∀ x ∈ O, dlook l x = some (O.idxOf x : Int)) ∧
    (sFor (iRn1 (aCons (eC1 lenD (eVB 1)) (aNil))) (gN 6) (sSetD (eV 5) (eOp ixD (eV 1) (eV 6)) (eV 6))) ⟨[p0, .sv (.lst (O.map D.int)), p2, p3, p4, .sv (.cell 1), .un, p7, p8, p9], [c, .dic []]⟩ = .ok .nx ⟨[p0, .sv (.lst (O.map D.int)), p2, p3, p4, .sv (.cell 1), x6, p7, p8, p9], [c, .dic l]⟩ := by
  have n1 : (O.length : Int) < 4611686018427387904 := by omega
  have n2 : -4611686018427387904 ≤ (O.length : Int) := by omega
  have rl : (rngL 0 (O.length : Nat)).length = O.length := by rw [rng_len]; omega
  have fm : (rngL 0 (O.length : Nat)).flatMap (fun d => [d]) = rngL 0 (O.length : Nat) := by simp
  obtain ⟨s', e, l, x6, rfl, h6, hn, hd⟩ := forL_acc (g := gN 6) (b := (sSetD (eV 5) (eOp ixD (eV 1) (eV 6)) (eV 6))) (seg := fun d => [d]) (ds := rngL 0 (O.length : Nat)) (acc := []) (I := fun acc s => ∃ (l : List (Int × Int)) (x6 : Slot), s = ⟨[p0, .sv (.lst (O.map D.int)), p2, p3, p4, .sv (.cell 1), x6, p7, p8, p9], [c, .dic l]⟩ ∧ (x6 = .un ∨ ∃ d, x6 = .sv d) ∧ l.length = acc.length ∧ ∀ d ∈ acc, ∃ t : Int, d = .int t ∧ 0 ≤ t ∧ t < O.length ∧ dlook l (O.getD t.toNat 0) = some t)
    (s := ⟨[p0, .sv (.lst (O.map D.int)), p2, p3, p4, .sv (.cell 1), .un, p7, p8, p9], [c, .dic []]⟩) ⟨[], .un, rfl, .inl rfl, rfl, fun _ h => nomatch h⟩ (by rw [fm, rl]; simp; omega) (fun d hd acc s hI ha => by
      obtain ⟨l, x6, rfl, h6, hn, hk⟩ := hI
      obtain ⟨t, t0, t1, rfl⟩ := rng_mem.mp hd
      have ht : t.toNat < O.length := by omega
      have a : atI (O.map D.int) t = some (.int (O.getD t.toNat 0)) := by
        rw [atI_int t0]
        simp [List.getD, ht]
      generalize hy : O.getD t.toNat 0 = y at a
      have hb : l.length < 100000 := by simp at ha; omega
      refine ⟨⟨[p0, .sv (.lst (O.map D.int)), p2, p3, p4, .sv (.cell 1), .sv (.int t), p7, p8, p9], [c, .dic ((y, t) :: l)]⟩, by simp [a, hb], (y, t) :: l, .sv (.int t), rfl, .inr ⟨_, rfl⟩, by simp [hn], fun d hd => ?_⟩
      rcases List.mem_append.mp hd with hd | hd
      · obtain ⟨u, rfl, u0, u1, k⟩ := hk d hd
        refine ⟨u, rfl, u0, u1, ?_⟩
        by_cases z : y = O.getD u.toNat 0
        · have := getD_inj nd ht (by omega : u.toNat < O.length) (hy.trans z)
          have : t = u := by omega
          subst this
          rw [hy]
          exact dlook_self _ _ _
        · rw [dlook_ne _ _ z]
          exact k
      · rw [List.mem_singleton] at hd
        subst hd
        exact ⟨t, rfl, t0, t1, by rw [hy]; exact dlook_self _ _ _⟩)
  rw [List.nil_append, fm] at hd
  refine ⟨l, x6, h6, fun x hx => ?_, ?_⟩
  · obtain ⟨t, ht, _, _, k⟩ := hd (.int (O.idxOf x : Nat)) (rng_mem.mpr ⟨_, by omega, by have := idx_lt hx; omega, rfl⟩)
    cases ht
    rw [show ((O.idxOf x : Nat) : Int).toNat = O.idxOf x from rfl, getD_idx hx] at k
    exact k
  · have hi : (iRn1 (aCons (eC1 lenD (eVB 1)) (aNil))) ⟨[p0, .sv (.lst (O.map D.int)), p2, p3, p4, .sv (.cell 1), .un, p7, p8, p9], [c, .dic []]⟩ = .ok (rngL 0 (O.length : Nat)) ⟨[p0, .sv (.lst (O.map D.int)), p2, p3, p4, .sv (.cell 1), .un, p7, p8, p9], [c, .dic []]⟩ := by simp [n1, n2]
    rw [x_sFor, hi, bind_ok]
    exact e
theorem srt {l : List Int} (hl : l.length ≤ 12) : sortedD (.lst ((l.map fun k => (O.idxOf k : Int)).map D.int)) = some (.lst ((mvL O l).map D.int)) := by
  rw [x_sorted, if_pos (by rw [List.length_map]; omega)]
  rfl
theorem un_hr {x : Slot} (h : x = .un ∨ ∃ d, x = .sv d) (a : List Slot) (b : List Slot) (i : Nat) (hi : a.length = i) : restL (a ++ x :: b) [i] (a ++ x :: b) = a ++ x :: b := by
  subst hi
  show (a ++ x :: b).set a.length _ = _
  rcases h with rfl | ⟨d, rfl⟩ <;> simp
theorem ex_row (h : m.gd g) (o : Ord m.rows.length O) {l : List (Int × Int)} (hd : ∀ x ∈ O, dlook l x = some (O.idxOf x : Int)) {r : List (List Int)} (hr : r ∈ m.verbs) {p0 x6 x7 : Slot} (h6 : x6 = .un ∨ ∃ d, x6 = .sv d) :
    (aLc [6] (iSeq (eV 1)) (gN 6) (tYes) (eC1 tupD (eC1 sortedD (eF (aLc [9] (iSeq (eOp ixD (eV 8) (eV 6))) (gN 9) (tYes) (eIxD (eV 5) (eV 9))))))) ⟨[p0, .sv (.lst (O.map D.int)), .sv (.tup (m.rows.map rowD)), .sv (.tup (m.verbs.map relD)), .sv (.tup (m.selfs.map intT)), .sv (.cell 1), x6, x7, .sv (relD r), .un], [c, .dic l]⟩ = .ok ((O.map fun i => mvL O (gL r i)).map intT) ⟨[p0, .sv (.lst (O.map D.int)), .sv (.tup (m.rows.map rowD)), .sv (.tup (m.verbs.map relD)), .sv (.tup (m.selfs.map intT)), .sv (.cell 1), x6, x7, .sv (relD r), .un], [c, .dic l]⟩ := by
  have ol := o.len
  have hl := h.len
  rw [List.map_map]
  refine lcM (inj := D.int) O (fun i => intT (mvL O (gL r i))) (by simp) (by omega) (un_hr h6 [_, _, _, _, _, _] _ 6 rfl) fun i hi => ?_
  obtain ⟨i0, i1⟩ := o.mem.mp hi
  obtain ⟨q1, q2⟩ := row_in h o hr hi
  have hrl := (h.rel r hr).1
  have c1 := rel_ix (r := r) i0 (by omega)
  have gl : (gL r i).length ≤ 12 := by
    have := asc_len (h.vasc r hr _ q1) ((h.rel r hr).2 _ q1)
    omega
  have e : ∀ s1 : S, s1 = ⟨[p0, .sv (.lst (O.map D.int)), .sv (.tup (m.rows.map rowD)), .sv (.tup (m.verbs.map relD)), .sv (.tup (m.selfs.map intT)), .sv (.cell 1), .sv (.int i), x7, .sv (relD r), .un], [c, .dic l]⟩ → (aLc [9] (iSeq (eOp ixD (eV 8) (eV 6))) (gN 9) (tYes) (eIxD (eV 5) (eV 9))) s1 = .ok (((gL r i).map fun k => (O.idxOf k : Int)).map D.int) s1 := by
    rintro s1 rfl
    rw [List.map_map]
    refine lcM (inj := D.int) (gL r i) (fun k => D.int (O.idxOf k : Nat)) (by simp [c1]; simp [intT]) (by omega) (by simp) fun k hk => ?_
    have := hd k (q2 k hk)
    simp [this]
  have e := e _ rfl
  have c3 := srt (O := O) gl
  generalize (gL r i).map (fun k => (O.idxOf k : Int)) = L at e c3
  simp [e, c3, -x_sorted]
  rfl
theorem ex_selfs (h : m.gd g) (o : Ord m.rows.length O) {l : List (Int × Int)} (hd : ∀ x ∈ O, dlook l x = some (O.idxOf x : Int)) {p0 x6 x7 x8 : Slot} (h6 : x6 = .un ∨ ∃ d, x6 = .sv d) (h8 : x8 = .un ∨ ∃ d, x8 = .sv d) :
    (aLc [8] (iSeq (eV 4)) (gN 8) (tYes) (eC1 tupD (eC1 sortedD (eF (aLc [6] (iSeq (eV 8)) (gN 6) (tYes) (eIxD (eV 5) (eV 6))))))) ⟨[p0, .sv (.lst (O.map D.int)), .sv (.tup (m.rows.map rowD)), .sv (.tup (m.verbs.map relD)), .sv (.tup (m.selfs.map intT)), .sv (.cell 1), x6, x7, x8, .un], [c, .dic l]⟩ = .ok ((m.moved O).selfs.map intT) ⟨[p0, .sv (.lst (O.map D.int)), .sv (.tup (m.rows.map rowD)), .sv (.tup (m.verbs.map relD)), .sv (.tup (m.selfs.map intT)), .sv (.cell 1), x6, x7, x8, .un], [c, .dic l]⟩ := by
  have ol := o.len
  have hl := h.len
  have sl : m.selfs.length ≤ 2 := by rw [h.selfs]; have := g.hv2; omega
  show _ = Res.ok ((m.selfs.map (mvL O)).map intT) _
  rw [List.map_map]
  refine lcM (inj := intT) m.selfs (fun l => intT (mvL O l)) (by simp) (by omega) (un_hr h8 [_, _, _, _, _, _, _, _] _ 8 rfl) fun w hw => ?_
  have q2 : ∀ x ∈ w, x ∈ O := fun x hx => o.mem.mpr (h.self w hw x hx)
  have gl : w.length ≤ 12 := by
    have := asc_len (h.sasc w hw) (h.self w hw)
    omega
  have e : ∀ s1 : S, s1 = ⟨[p0, .sv (.lst (O.map D.int)), .sv (.tup (m.rows.map rowD)), .sv (.tup (m.verbs.map relD)), .sv (.tup (m.selfs.map intT)), .sv (.cell 1), x6, x7, .sv (intT w), .un], [c, .dic l]⟩ → (aLc [6] (iSeq (eV 8)) (gN 6) (tYes) (eIxD (eV 5) (eV 6))) s1 = .ok ((w.map fun k => (O.idxOf k : Int)).map D.int) s1 := by
    rintro s1 rfl
    rw [List.map_map]
    refine lcM (inj := D.int) w (fun k => D.int (O.idxOf k : Nat)) (by simp [intT]) (by omega) (un_hr h6 [_, _, _, _, _, _] _ 6 rfl) fun k hk => ?_
    have := hd k (q2 k hk)
    simp [this]
  have e := e _ rfl
  have c3 := srt (O := O) gl
  generalize w.map (fun k => (O.idxOf k : Int)) = L at e c3
  simp [e, c3, -x_sorted]
  rfl
theorem ex_rows (h : m.gd g) (o : Ord m.rows.length O) {l : List (Int × Int)} {p0 x6 x7 x8 x9 : Slot} (h6 : x6 = .un ∨ ∃ d, x6 = .sv d) :
    (aLc [6] (iSeq (eV 1)) (gN 6) (tYes) (eOp ixD (eV 2) (eV 6))) ⟨[p0, .sv (.lst (O.map D.int)), .sv (.tup (m.rows.map rowD)), .sv (.tup (m.verbs.map relD)), .sv (.tup (m.selfs.map intT)), .sv (.cell 1), x6, x7, x8, x9], [c, .dic l]⟩ = .ok ((m.moved O).rows.map rowD) ⟨[p0, .sv (.lst (O.map D.int)), .sv (.tup (m.rows.map rowD)), .sv (.tup (m.verbs.map relD)), .sv (.tup (m.selfs.map intT)), .sv (.cell 1), x6, x7, x8, x9], [c, .dic l]⟩ := by
  have ol := o.len
  have hl := h.len
  show _ = Res.ok ((O.map fun o => m.rows.getD o.toNat (0, [])).map rowD) _
  rw [List.map_map]
  refine lcM (inj := D.int) O (fun i => rowD (m.rows.getD i.toNat (0, []))) (by simp) (by omega) (un_hr h6 [_, _, _, _, _, _] _ 6 rfl) fun i hi => ?_
  obtain ⟨i0, i1⟩ := o.mem.mp hi
  have c1 : atI (m.rows.map rowD) i = some (rowD (m.rows.getD i.toNat (0, []))) := by
    have : i.toNat < m.rows.length := by omega
    simp [atI_int i0, this, List.getD]
  generalize m.rows.getD i.toNat (0, []) = q at c1
  simp [c1]
theorem l_exchanged (h : m.gd g) (o : Ord m.rows.length O) : ∃ (l : List (Int × Int)), F__law_exchanged [m.d, .lst (O.map D.int)] [c] = .ok (m.moved O).d ⟨[], [c, .dic l]⟩ := by
  have ol := o.len
  have hl := h.len
  have vl : m.verbs.length ≤ 2 := by rw [h.verbs]; have := g.hv2; omega
  obtain ⟨l, x6, h6, hd, e2⟩ := place (c := c) o.nodup (by omega) (p0 := .sv m.d) (p2 := .sv (.tup (m.rows.map rowD))) (p3 := .sv (.tup (m.verbs.map relD))) (p4 := .sv (.tup (m.selfs.map intT))) (p7 := .un) (p8 := .un) (p9 := .un)
  have fm : m.verbs.flatMap (fun r => [relD (O.map fun i => mvL O (gL r i))]) = (m.moved O).verbs.map relD := by
    show _ = (m.verbs.map fun r => O.map fun i => mvL O (gL r i)).map relD
    rw [List.map_map]
    induction m.verbs with
    | nil => rfl
    | cons a t ih => simp [ih]
  obtain ⟨s', e4, x8, h8, rfl⟩ := forL_accM (F := relD) (g := gN 8) (b := (sApp 7 (eC1 tupD (eF (aLc [6] (iSeq (eV 1)) (gN 6) (tYes) (eC1 tupD (eC1 sortedD (eF (aLc [9] (iSeq (eOp ixD (eV 8) (eV 6))) (gN 9) (tYes) (eIxD (eV 5) (eV 9))))))))))) (seg := fun r => [relD (O.map fun i => mvL O (gL r i))]) (l := m.verbs) (acc := []) (I := fun acc s => ∃ x8 : Slot, (x8 = .un ∨ ∃ d, x8 = .sv d) ∧ s = ⟨[.sv m.d, .sv (.lst (O.map D.int)), .sv (.tup (m.rows.map rowD)), .sv (.tup (m.verbs.map relD)), .sv (.tup (m.selfs.map intT)), .sv (.cell 1), x6, .own acc, x8, .un], [c, .dic l]⟩)
    (s := ⟨[.sv m.d, .sv (.lst (O.map D.int)), .sv (.tup (m.rows.map rowD)), .sv (.tup (m.verbs.map relD)), .sv (.tup (m.selfs.map intT)), .sv (.cell 1), x6, .own [], .un, .un], [c, .dic l]⟩) ⟨.un, .inl rfl, rfl⟩ (by rw [fm, List.length_map]; show List.length [] + (List.map _ m.verbs).length ≤ _; rw [List.length_map]; simp; omega) (fun r hr acc s hI ha => by
      obtain ⟨x8, h8, rfl⟩ := hI
      have e := ex_row (c := c) h o hd hr (p0 := .sv m.d) (x6 := x6) (x7 := .own acc) h6
      have t2 : D.tup ((O.map fun i => mvL O (gL r i)).map intT) = relD (O.map fun i => mvL O (gL r i)) := rfl
      have hb : acc.length < 100000 := by simp at ha; omega
      refine ⟨⟨[.sv m.d, .sv (.lst (O.map D.int)), .sv (.tup (m.rows.map rowD)), .sv (.tup (m.verbs.map relD)), .sv (.tup (m.selfs.map intT)), .sv (.cell 1), x6, .own (acc ++ [relD (O.map fun i => mvL O (gL r i))]), .sv (relD r), .un], [c, .dic l]⟩, ?_, .sv (relD r), .inr ⟨_, rfl⟩, rfl⟩
      rw [← t2]
      generalize (O.map fun i => mvL O (gL r i)).map intT = L at e
      simp [e, hb])
  rw [List.nil_append, fm] at e4
  have e5 := ex_rows (c := c) h o (l := l) (p0 := .sv m.d) (x6 := x6) (x7 := .own ((m.moved O).verbs.map relD)) (x8 := x8) (x9 := .un) h6
  have e6 := ex_selfs (c := c) h o hd (p0 := .sv m.d) (x6 := x6) (x7 := .own ((m.moved O).verbs.map relD)) (x8 := x8) h6 h8
  have wd : (m.moved O).d = .tup [.tup ((m.moved O).rows.map rowD), .tup ((m.moved O).verbs.map relD), .tup ((m.moved O).selfs.map intT)] := rfl
  refine ⟨l, ?_⟩
  rw [wd]
  generalize (m.moved O).rows.map rowD = A at e5 e6 e4 ⊢
  generalize (m.moved O).verbs.map relD = B at e5 e6 e4 ⊢
  generalize (m.moved O).selfs.map intT = C at e5 e6 e4 ⊢
  show fnS0 10 B__law_exchanged [m.d, .lst (O.map D.int)] [c] = _
  rw [fnS0_eq]
  show fin (B__law_exchanged ⟨[.sv m.d, .sv (.lst (O.map D.int)), .un, .un, .un, .un, .un, .un, .un, .un], [c]⟩) = _
  have e : B__law_exchanged ⟨[.sv m.d, .sv (.lst (O.map D.int)), .un, .un, .un, .un, .un, .un, .un, .un], [c]⟩ = .ok (.rt (.tup [.tup A, .tup B, .tup C])) ⟨[.sv m.d, .sv (.lst (O.map D.int)), .sv (.tup (m.rows.map rowD)), .sv (.tup (m.verbs.map relD)), .sv (.tup (m.selfs.map intT)), .sv (.cell 1), x6, .own B, x8, .un], [c, .dic l]⟩ := by
    unfold B__law_exchanged
    refine (seq (s1 := ⟨[.sv m.d, .sv (.lst (O.map D.int)), .sv (.tup (m.rows.map rowD)), .sv (.tup (m.verbs.map relD)), .sv (.tup (m.selfs.map intT)), .un, .un, .un, .un, .un], [c]⟩) (by simp [Mdl.d])).trans ?_
    refine (seq (s1 := ⟨[.sv m.d, .sv (.lst (O.map D.int)), .sv (.tup (m.rows.map rowD)), .sv (.tup (m.verbs.map relD)), .sv (.tup (m.selfs.map intT)), .sv (.cell 1), .un, .un, .un, .un], [c, .dic []]⟩) (by simp)).trans ?_
    refine (seq (s1 := ⟨[.sv m.d, .sv (.lst (O.map D.int)), .sv (.tup (m.rows.map rowD)), .sv (.tup (m.verbs.map relD)), .sv (.tup (m.selfs.map intT)), .sv (.cell 1), x6, .un, .un, .un], [c, .dic l]⟩) e2).trans ?_
    refine (seq (s1 := ⟨[.sv m.d, .sv (.lst (O.map D.int)), .sv (.tup (m.rows.map rowD)), .sv (.tup (m.verbs.map relD)), .sv (.tup (m.selfs.map intT)), .sv (.cell 1), x6, .own [], .un, .un], [c, .dic l]⟩) (by simp)).trans ?_
    refine (seq (s1 := ⟨[.sv m.d, .sv (.lst (O.map D.int)), .sv (.tup (m.rows.map rowD)), .sv (.tup (m.verbs.map relD)), .sv (.tup (m.selfs.map intT)), .sv (.cell 1), x6, .own B, x8, .un], [c, .dic l]⟩) ?_).trans ?_
    · have hi : (iSeq (eV 3)) ⟨[.sv m.d, .sv (.lst (O.map D.int)), .sv (.tup (m.rows.map rowD)), .sv (.tup (m.verbs.map relD)), .sv (.tup (m.selfs.map intT)), .sv (.cell 1), x6, .own [], .un, .un], [c, .dic l]⟩ = .ok (m.verbs.map relD) ⟨[.sv m.d, .sv (.lst (O.map D.int)), .sv (.tup (m.rows.map rowD)), .sv (.tup (m.verbs.map relD)), .sv (.tup (m.selfs.map intT)), .sv (.cell 1), x6, .own [], .un, .un], [c, .dic l]⟩ := by simp
      rw [x_sFor, hi, bind_ok]
      exact e4
    · simp [e5, e6]
  rw [e]
  rfl
end
/-! ## a group parted -/
def pext (n a : Nat) (l : List Int) : List Int := l ++ if (a : Int) ∈ l then [(n : Int)] else []
def Mdl.parted (m : Mdl) (a : Nat) : Mdl := ⟨m.rows.set a (m.size a - 1, m.nouns (a : Nat)) ++ [(1, m.nouns (a : Nat))], m.verbs.map fun r => r.map (pext m.rows.length a) ++ [pext m.rows.length a (r.getD a [])], m.selfs.map (pext m.rows.length a)⟩
def src (n a : Nat) (k : Int) : Int := if k = n then a else k
theorem mem_pext {n a : Nat} {l : List Int} (h : ∀ x ∈ l, 0 ≤ x ∧ x < n) {k : Int} (hk : k ≤ n) : k ∈ pext n a l ↔ src n a k ∈ l := by
  unfold pext src
  rw [List.mem_append]
  by_cases e : k = n
  · subst e
    rw [if_pos rfl]
    by_cases c : (a : Int) ∈ l
    · rw [if_pos c]
      simp [c]
    · rw [if_neg c]
      simp only [List.not_mem_nil, or_false]
      exact ⟨fun z => by have := h _ z; omega, fun z => absurd z c⟩
  · rw [if_neg e]
    refine ⟨fun z => ?_, .inl⟩
    rcases z with z | z
    · exact z
    · split at z
      · rw [List.mem_singleton] at z
        exact absurd z e
      · cases z
theorem pext_lt {n a : Nat} {l : List Int} (h : ∀ x ∈ l, 0 ≤ x ∧ x < (n : Int)) : ∀ x ∈ pext n a l, 0 ≤ x ∧ x < ((n + 1 : Nat) : Int) := fun x hx => by
  unfold pext at hx
  rcases List.mem_append.mp hx with hx | hx
  · have := h x hx
    omega
  · split at hx
    · rw [List.mem_singleton] at hx
      omega
    · cases hx
theorem pext_asc {n a : Nat} {l : List Int} (h : ∀ x ∈ l, 0 ≤ x ∧ x < (n : Int)) (q : Asc l) : Asc (pext n a l) := by
  unfold pext
  refine List.pairwise_append.mpr ⟨q, ?_, fun x hx y hy => ?_⟩
  · split
    · exact List.pairwise_singleton _ _
    · exact List.Pairwise.nil
  · split at hy
    · rw [List.mem_singleton] at hy
      have := h x hx
      omega
    · cases hy
section
variable {g : Sig} {m : Mdl} {a : Nat}
theorem parted_len : (m.parted a).rows.length = m.rows.length + 1 := by simp [Mdl.parted]
theorem getD_mem {α : Type} {l : List α} {i : Nat} {d : α} (h : i < l.length) : l.getD i d ∈ l := by
  have e : l.getD i d = l[i] := by simp [List.getD, h]
  rw [e]
  exact List.getElem_mem h
theorem nouns_mem {k : Nat} (hk : k < m.rows.length) : (m.size k, m.nouns (k : Nat)) ∈ m.rows := by
  have := getD_mem (d := ((0, []) : Int × List Int)) hk
  exact this
theorem parted_gd (h : m.gd g) (h4 : m.rows.length ≤ 4) (ha : a < m.rows.length) (hs : 1 < m.size a) : (m.parted a).gd g := by
  have ma := nouns_mem ha
  have hr : ∀ r ∈ (m.parted a).rows, ∃ r' ∈ m.rows, r.2 = r'.2 ∧ 1 ≤ r.1 ∧ r.1 ≤ 3 := fun r hr => by
    rcases List.mem_append.mp hr with hr | hr
    · rcases List.mem_or_eq_of_mem_set hr with hr | rfl
      · have := h.rows r hr
        exact ⟨r, hr, rfl, this.1, this.2.1⟩
      · have := h.rows _ ma
        exact ⟨_, ma, rfl, by show 1 ≤ m.size a - 1; omega, by show m.size a - 1 ≤ 3; have := this.2.1; show m.size a - 1 ≤ 3; simp at this; omega⟩
    · rw [List.mem_singleton] at hr
      subst hr
      exact ⟨_, ma, rfl, Int.le_refl 1, by show (1 : Int) ≤ 3; decide⟩
  refine ⟨⟨fun r hr' => ?_, by rw [parted_len]; omega, by show (List.map _ m.verbs).length = _; rw [List.length_map]; exact h.verbs, fun r hr' => ?_, by show (List.map _ m.selfs).length = _; rw [List.length_map]; exact h.selfs, fun l hl => ?_⟩, fun r hr' => ?_, fun r hr' l hl => ?_, fun l hl => ?_⟩
  · obtain ⟨r', h1, h2, h3, h5⟩ := hr r hr'
    rw [h2]
    exact ⟨h3, h5, (h.rows r' h1).2.2⟩
  · obtain ⟨q, hq, rfl⟩ := List.mem_map.mp hr'
    obtain ⟨k1, k2⟩ := h.rel q hq
    refine ⟨by rw [parted_len, List.length_append, List.length_map, k1]; rfl, fun l hl => ?_⟩
    rw [parted_len]
    rcases List.mem_append.mp hl with hl | hl
    · obtain ⟨w, hw, rfl⟩ := List.mem_map.mp hl
      exact pext_lt (k2 w hw)
    · rw [List.mem_singleton] at hl
      subst hl
      exact pext_lt (k2 _ (getD_mem (by rw [k1]; exact ha)))
  · obtain ⟨w, hw, rfl⟩ := List.mem_map.mp hl
    rw [parted_len]
    exact pext_lt (h.self w hw)
  · obtain ⟨r', h1, h2, _⟩ := hr r hr'
    rw [h2]
    exact h.rasc r' h1
  · obtain ⟨q, hq, rfl⟩ := List.mem_map.mp hr'
    obtain ⟨k1, k2⟩ := h.rel q hq
    rcases List.mem_append.mp hl with hl | hl
    · obtain ⟨w, hw, rfl⟩ := List.mem_map.mp hl
      exact pext_asc (k2 w hw) (h.vasc q hq w hw)
    · rw [List.mem_singleton] at hl
      subst hl
      have := getD_mem (l := q) (i := a) (d := []) (by rw [k1]; exact ha)
      exact pext_asc (k2 _ this) (h.vasc q hq _ this)
  · obtain ⟨w, hw, rfl⟩ := List.mem_map.mp hl
    exact pext_asc (h.self w hw) (h.sasc w hw)
theorem parted_row {k : Nat} (hk : k < m.rows.length) (ne : k ≠ a) : (m.parted a).rows.getD k (0, []) = m.rows.getD k (0, []) := by
  show (m.rows.set a _ ++ [_]).getD k _ = _
  rw [getD_app_l (by rw [List.length_set]; exact hk)]
  simp [List.getD, List.getElem?_set_ne (Ne.symm ne)]
theorem parted_rowa (ha : a < m.rows.length) : (m.parted a).rows.getD a (0, []) = (m.size a - 1, m.nouns (a : Nat)) := by
  show (m.rows.set a _ ++ [_]).getD a _ = _
  rw [getD_app_l (by rw [List.length_set]; exact ha)]
  simp [List.getD, ha]
theorem parted_rown : (m.parted a).rows.getD m.rows.length (0, []) = (1, m.nouns (a : Nat)) := by
  show (m.rows.set a _ ++ [_]).getD m.rows.length _ = _
  have := getD_app_r (a := m.rows.set a (m.size a - 1, m.nouns (a : Nat))) (b := [(1, m.nouns (a : Nat))]) (i := 0) (d := (0, []))
  rw [List.length_set] at this
  exact this
theorem parted_nouns (ha : a < m.rows.length) {k : Nat} (hk : k ≤ m.rows.length) : (m.parted a).nouns (k : Nat) = m.nouns (src m.rows.length a k) := by
  unfold Mdl.nouns src
  rw [Int.toNat_natCast]
  by_cases e : k = m.rows.length
  · subst e
    rw [if_pos rfl, parted_rown]
    rfl
  · rw [if_neg (by omega)]
    by_cases e2 : k = a
    · subst e2
      rw [parted_rowa ha]
      rfl
    · rw [parted_row (by omega) e2]
      rfl
theorem parted_size {k : Nat} (hk : k < m.rows.length) (ne : k ≠ a) : (m.parted a).size k = m.size k := by
  unfold Mdl.size
  rw [parted_row hk ne]
theorem parted_sizea (ha : a < m.rows.length) : (m.parted a).size a = m.size a - 1 := by
  show ((m.parted a).rows.getD a (0, [])).1 = _
  rw [parted_rowa ha]
theorem parted_sizen : (m.parted a).size m.rows.length = 1 := by
  show ((m.parted a).rows.getD m.rows.length (0, [])).1 = _
  rw [parted_rown]
theorem parted_vrr (h : m.gd g) (ha : a < m.rows.length) {v : Int} (hv : isV g v) {k : Nat} (hk : k ≤ m.rows.length) : (m.parted a).vrr v (k : Nat) = pext m.rows.length a (m.vrr v (src m.rows.length a k)) := by
  have hvt : v.toNat < m.verbs.length := by rw [h.verbs]; have := hv.1; have := hv.2; omega
  have vl := vr_len h hv
  have e1 : (m.parted a).vr v = (m.vr v).map (pext m.rows.length a) ++ [pext m.rows.length a ((m.vr v).getD a [])] := by
    unfold Mdl.parted Mdl.vr
    simp [List.getD, hvt]
  unfold Mdl.vrr
  rw [e1, Int.toNat_natCast]
  unfold src
  by_cases e : k = m.rows.length
  · subst e
    rw [if_pos rfl, Int.toNat_natCast]
    have := getD_app_r (a := (m.vr v).map (pext m.rows.length a)) (b := [pext m.rows.length a ((m.vr v).getD a [])]) (i := 0) (d := [])
    rw [List.length_map, vl] at this
    exact this
  · rw [if_neg (by omega), Int.toNat_natCast, getD_app_l (by rw [List.length_map, vl]; omega)]
    have : k < (m.vr v).length := by omega
    simp [List.getD, this]
theorem parted_sr (h : m.gd g) {v : Int} (hv : isV g v) : (m.parted a).sr v = pext m.rows.length a (m.sr v) := by
  have hvt : v.toNat < m.selfs.length := by rw [h.selfs]; have := hv.1; have := hv.2; omega
  unfold Mdl.parted Mdl.sr
  simp [List.getD, hvt]
def prt (m : Mdl) (a : Nat) (p : Pr) : Pr := if p = ((a : Int), m.size a - 1) then ((m.rows.length : Int), 0) else p
theorem prt_src {p : Pr} (hp : p ∈ m.people) : src m.rows.length a (prt m a p).1 = p.1 ∧ ∃ k : Nat, k ≤ m.rows.length ∧ (prt m a p).1 = k := by
  obtain ⟨k, j, hk, hj, rfl⟩ := mem_ppl.mp hp
  unfold prt src
  split
  · rename_i e
    have := (Prod.ext_iff.mp e).1
    exact ⟨by rw [if_pos rfl]; exact this.symm, _, Nat.le_refl _, rfl⟩
  · exact ⟨if_neg (by show ¬ ((k : Int) = _); omega), k, by omega, rfl⟩
theorem parted_iso (h : m.gd g) (ha : a < m.rows.length) (hs : 1 < m.size a) : Iso g m (m.parted a) (prt m a) := by
  have inj : ∀ p ∈ m.people, ∀ q ∈ m.people, prt m a p = prt m a q → p = q := fun p hp q hq e => by
    obtain ⟨k, j, hk, hj, rfl⟩ := mem_ppl.mp hp
    obtain ⟨k', j', hk', hj', rfl⟩ := mem_ppl.mp hq
    unfold prt at e
    split at e
    · rename_i e1
      split at e
      · rename_i e2
        rw [e1, e2]
      · have := (Prod.ext_iff.mp e).1
        simp at this
        omega
    · split at e
      · have := (Prod.ext_iff.mp e).1
        simp at this
        omega
      · exact e
  refine ⟨?_, inj, fun x p hp => ?_, fun v hv p hp q hq => ?_⟩
  · have nd : (m.people.map (prt m a)).Nodup := by
      unfold List.Nodup
      rw [List.pairwise_map]
      exact List.Pairwise.imp_of_mem (fun {p q} hp hq ne e => ne (inj p hp q hq e)) (ppl_nodup m)
    rw [List.perm_ext_iff_of_nodup (ppl_nodup _) nd]
    intro p
    rw [List.mem_map]
    constructor
    · intro hp
      obtain ⟨k, j, hk, hj, rfl⟩ := mem_ppl.mp hp
      rw [parted_len] at hk
      by_cases e : k = m.rows.length
      · subst e
        rw [parted_sizen] at hj
        have : j = 0 := by
          have : (1 : Int).toNat = 1 := rfl
          omega
        subst this
        exact ⟨((a : Int), m.size a - 1), mem_ppl.mpr ⟨a, (m.size a - 1).toNat, ha, by omega, Prod.ext rfl (by show m.size a - 1 = _; omega)⟩, if_pos rfl⟩
      · by_cases e2 : k = a
        · subst e2
          rw [parted_sizea ha] at hj
          refine ⟨((k : Int), (j : Int)), mem_ppl.mpr ⟨k, j, ha, by omega, rfl⟩, if_neg fun z => ?_⟩
          have := (Prod.ext_iff.mp z).2
          simp at this
          omega
        · rw [parted_size (by omega) e2] at hj
          refine ⟨((k : Int), (j : Int)), mem_ppl.mpr ⟨k, j, by omega, hj, rfl⟩, if_neg fun z => ?_⟩
          have := (Prod.ext_iff.mp z).1
          simp at this
          omega
    · rintro ⟨q, hq, rfl⟩
      obtain ⟨k, j, hk, hj, rfl⟩ := mem_ppl.mp hq
      unfold prt
      split
      · exact mem_ppl.mpr ⟨m.rows.length, 0, by rw [parted_len]; omega, by rw [parted_sizen]; decide, rfl⟩
      · rename_i ne
        by_cases e2 : k = a
        · subst e2
          refine mem_ppl.mpr ⟨k, j, by rw [parted_len]; omega, ?_, rfl⟩
          rw [parted_sizea ha]
          have : ¬ ((j : Int) = m.size k - 1) := fun z => ne (Prod.ext rfl z)
          omega
        · exact mem_ppl.mpr ⟨k, j, by rw [parted_len]; omega, by rw [parted_size hk e2]; exact hj, rfl⟩
  · obtain ⟨e1, k, hk, e2⟩ := prt_src (a := a) hp
    rw [e2, parted_nouns ha hk, ← e2, e1]
  · obtain ⟨e1, k, hk, e2⟩ := prt_src (a := a) hp
    obtain ⟨f1, j, hj, f2⟩ := prt_src (a := a) hq
    by_cases e : p = q
    · subst e
      rw [does_self, does_self]
      unfold Mdl.slf
      rw [parted_sr h hv, e2, Bool.eq_iff_iff, decide_eq_true_eq, decide_eq_true_eq, mem_pext (h.self _ (sr_in h hv)) (by omega), ← e2, e1]
    · have e' : prt m a p ≠ prt m a q := fun z => e (inj p hp q hq z)
      rw [does_other e, does_other e']
      unfold Mdl.rel
      have hm := mem_people hp
      have hw : ∀ x ∈ m.vrr v p.1, 0 ≤ x ∧ x < (m.rows.length : Int) := (h.rel _ (vr_in h hv)).2 _ (vrr_in h hv hm.1 hm.2)
      rw [e2, parted_vrr h ha hv hk, ← e2, e1, f2, Bool.eq_iff_iff, decide_eq_true_eq, decide_eq_true_eq, mem_pext hw (by omega), ← f2, f1]
end
/-! ## the law's parted model -/
theorem flat_one {α β : Type} (F : α → β) (l : List α) : l.flatMap (fun r => [F r]) = l.map F := by
  induction l with
  | nil => rfl
  | cons a t ih => simp [ih]
theorem mul_one {n : Int} {c : Bool} : mulT (.tup [.int n]) (.int (if c = true then 1 else 0)) = some (intT (if c = true then [n] else [])) := by
  cases c <;> simp [intT]
theorem add_ext {n a : Nat} {l : List Int} (hl : l.length ≤ 1000) : addD (intT l) (intT (if decide ((a : Int) ∈ l) = true then [(n : Int)] else [])) = some (intT (pext n a l)) := by
  have e : (if decide ((a : Int) ∈ l) = true then [(n : Int)] else []) = if (a : Int) ∈ l then [(n : Int)] else [] := by simp
  rw [e, add_int (by split <;> simp <;> omega)]
  rfl
section
variable {g : Sig} {m : Mdl} {a : Nat} {cs : List Cell}
theorem l_parted (h : m.gd g) (ha : a < m.rows.length) : F__law_parted [m.d, .int (a : Nat)] cs = .ok (m.parted a).d ⟨[], cs⟩ := by
  have hl := h.len
  have vl : m.verbs.length ≤ 2 := by rw [h.verbs]; have := g.hv2; omega
  have sl : m.selfs.length ≤ 2 := by rw [h.selfs]; have := g.hv2; omega
  have ra := row_at (m := m) (i := (a : Nat)) (by omega) (by omega)
  rw [Int.toNat_natCast] at ra
  have fm : m.verbs.flatMap (fun r => [relD (r.map (pext m.rows.length a) ++ [pext m.rows.length a (r.getD a [])])]) = (m.parted a).verbs.map relD := by
    show _ = (m.verbs.map fun r => r.map (pext m.rows.length a) ++ [pext m.rows.length a (r.getD a [])]).map relD
    rw [List.map_map]
    exact flat_one _ _
  obtain ⟨s', e4, x9, x10, h9, rfl⟩ := forL_accM (F := relD) (g := gN 9) (b := (sCons (sSet 10 (eF (aLc [11] (iSeq (eV 9)) (gN 11) (tYes) (eOp addD (eV 11) (eOp mulT (eTup (aCons (eV 5) (aNil))) (eC1 intD (eOp inOp (eV 1) (eVB 11))))))))
  (sApp 8 (eC1 tupD (eOp addD (eV 10) (eF (aCons (eOp ixD (eV 10) (eV 1)) (aNil)))))))) (seg := fun r => [relD (r.map (pext m.rows.length a) ++ [pext m.rows.length a (r.getD a [])])]) (l := m.verbs) (acc := []) (I := fun acc s => ∃ x9 x10 : Slot, (x9 = .un ∨ ∃ d, x9 = .sv d) ∧ s = ⟨[.sv m.d, .sv (.int (a : Nat)), .sv (.tup (m.rows.map rowD)), .sv (.tup (m.verbs.map relD)), .sv (.tup (m.selfs.map intT)), .sv (.int (m.rows.length : Nat)), .sv (.int (m.size a)), .sv (intT (m.nouns (a : Nat))), .own acc, x9, x10, .un], cs⟩)
    (s := ⟨[.sv m.d, .sv (.int (a : Nat)), .sv (.tup (m.rows.map rowD)), .sv (.tup (m.verbs.map relD)), .sv (.tup (m.selfs.map intT)), .sv (.int (m.rows.length : Nat)), .sv (.int (m.size a)), .sv (intT (m.nouns (a : Nat))), .own [], .un, .un, .un], cs⟩) ⟨.un, .un, .inl rfl, rfl⟩ (by rw [fm, List.length_map]; show List.length [] + (List.map _ m.verbs).length ≤ _; rw [List.length_map]; simp; omega) (fun r hr acc s hI hacc => by
      obtain ⟨x9, x10, _, rfl⟩ := hI
      obtain ⟨r1, r2⟩ := h.rel r hr
      have e : ∀ s1 : S, s1 = ⟨[.sv m.d, .sv (.int (a : Nat)), .sv (.tup (m.rows.map rowD)), .sv (.tup (m.verbs.map relD)), .sv (.tup (m.selfs.map intT)), .sv (.int (m.rows.length : Nat)), .sv (.int (m.size a)), .sv (intT (m.nouns (a : Nat))), .own acc, .sv (relD r), x10, .un], cs⟩ → (aLc [11] (iSeq (eV 9)) (gN 11) (tYes) (eOp addD (eV 11) (eOp mulT (eTup (aCons (eV 5) (aNil))) (eC1 intD (eOp inOp (eV 1) (eVB 11)))))) s1 = .ok ((r.map (pext m.rows.length a)).map intT) s1 := by
        rintro s1 rfl
        rw [List.map_map]
        refine lcM (inj := intT) r (fun l => intT (pext m.rows.length a l)) (by simp [relD]) (by omega) (by simp) fun l hl => ?_
        have ll : l.length ≤ 1000 := by
          have := asc_len (h.vasc r hr l hl) (r2 l hl)
          omega
        have e1 := mul_one (n := (m.rows.length : Nat)) (c := decide ((a : Int) ∈ l))
        have e2 := add_ext (n := m.rows.length) (a := a) ll
        simp only [decide_eq_true_eq] at e1 e2
        simp [in_intT, -x_mulT, e1, e2]
      have e := e _ rfl
      have hb : acc.length < 100000 := by simp at hacc; omega
      have ix : atI ((r.map (pext m.rows.length a)).map intT) (a : Nat) = some (intT (pext m.rows.length a (r.getD a []))) := by
        have : a < r.length := by omega
        rw [Z.atI_nat]
        simp [this, List.getD]
      have t2 : ∀ (A : List D) (B : List (List Int)) (c : List Int), A = B.map intT → D.tup (A ++ [intT c]) = relD (B ++ [c]) := fun A B c z => by
        rw [z, relD, List.map_append]
        rfl
      have t3 := t2 _ (r.map (pext m.rows.length a)) (pext m.rows.length a (r.getD a [])) rfl
      have lh : ((r.map (pext m.rows.length a)).map intT).length + 1 ≤ 100000 := by simp; omega
      generalize hL : (r.map (pext m.rows.length a)).map intT = L at e ix t3 lh
      refine ⟨⟨[.sv m.d, .sv (.int (a : Nat)), .sv (.tup (m.rows.map rowD)), .sv (.tup (m.verbs.map relD)), .sv (.tup (m.selfs.map intT)), .sv (.int (m.rows.length : Nat)), .sv (.int (m.size a)), .sv (intT (m.nouns (a : Nat))), .own (acc ++ [relD (r.map (pext m.rows.length a) ++ [pext m.rows.length a (r.getD a [])])]), .sv (relD r), .sv (.lst L), .un], cs⟩, ?_, .sv (relD r), .sv (.lst L), .inr ⟨_, rfl⟩, rfl⟩
      rw [← t3]
      simp [e, ix, hb, lh])
  rw [List.nil_append, fm] at e4
  have e5 : ∀ x9 x10 : Slot, (x9 = .un ∨ ∃ d, x9 = .sv d) → ∀ s1 : S, s1 = ⟨[.sv m.d, .sv (.int (a : Nat)), .sv (.tup (m.rows.map rowD)), .sv (.tup (m.verbs.map relD)), .sv (.tup (m.selfs.map intT)), .sv (.int (m.rows.length : Nat)), .sv (.int (m.size a)), .sv (intT (m.nouns (a : Nat))), .own ((m.parted a).verbs.map relD), x9, x10, .un], cs⟩ → (aLc [9] (iSeq (eV 4)) (gN 9) (tYes) (eOp addD (eV 9) (eOp mulT (eTup (aCons (eV 5) (aNil))) (eC1 intD (eOp inOp (eV 1) (eVB 9)))))) s1 = .ok ((m.parted a).selfs.map intT) s1 := by
    rintro x9 x10 h9 s1 rfl
    show _ = Res.ok ((m.selfs.map (pext m.rows.length a)).map intT) _
    rw [List.map_map]
    refine lcM (inj := intT) m.selfs (fun l => intT (pext m.rows.length a l)) (by simp) (by omega) (un_hr h9 [_, _, _, _, _, _, _, _, _] _ 9 rfl) fun l hl => ?_
    have ll : l.length ≤ 1000 := by
      have := asc_len (h.sasc l hl) (h.self l hl)
      omega
    have e1 := mul_one (n := (m.rows.length : Nat)) (c := decide ((a : Int) ∈ l))
    have e2 := add_ext (n := m.rows.length) (a := a) ll
    simp only [decide_eq_true_eq] at e1 e2
    simp [in_intT, -x_mulT, e1, e2]
  have wd : (m.parted a).d = .tup [.tup ((m.parted a).rows.map rowD), .tup ((m.parted a).verbs.map relD), .tup ((m.parted a).selfs.map intT)] := rfl
  have rw1 : (m.parted a).rows.map rowD = ((m.rows.map rowD).take a ++ [.tup [.int (m.size a - 1), intT (m.nouns (a : Nat))]] ++ (m.rows.map rowD).drop (a + 1)) ++ [.tup [.int 1, intT (m.nouns (a : Nat))]] := by
    show (m.rows.set a (m.size a - 1, m.nouns (a : Nat)) ++ [(1, m.nouns (a : Nat))]).map rowD = _
    rw [List.set_eq_take_append_cons_drop, if_pos ha]
    simp [rowD]
  have e6 := e5 x9 x10 h9 _ rfl
  have c1 := cut_to (l := m.rows.map rowD) (i := (a : Nat)) (by omega)
  have c2 := cut_from (l := m.rows.map rowD) (i := (a : Nat) + 1) (by omega)
  rw [Int.toNat_natCast] at c1
  rw [show ((a : Int) + 1).toNat = a + 1 from by omega] at c2
  have l1 : ((m.rows.map rowD).take a).length ≤ 12 := by simp; omega
  have l2 : ((m.rows.map rowD).drop (a + 1)).length ≤ 12 := by simp; omega
  rw [wd, rw1]
  generalize (m.rows.map rowD).take a = A at c1 l1 ⊢
  generalize (m.rows.map rowD).drop (a + 1) = Z at c2 l2 ⊢
  generalize (m.parted a).verbs.map relD = B at e4 e6 ⊢
  generalize (m.parted a).selfs.map intT = C at e6 ⊢
  show fnS0 12 B__law_parted [m.d, .int (a : Nat)] cs = _
  rw [fnS0_eq]
  show fin (B__law_parted ⟨[.sv m.d, .sv (.int (a : Nat)), .un, .un, .un, .un, .un, .un, .un, .un, .un, .un], cs⟩) = _
  have e : B__law_parted ⟨[.sv m.d, .sv (.int (a : Nat)), .un, .un, .un, .un, .un, .un, .un, .un, .un, .un], cs⟩ = .ok (.rt (.tup [.tup (A ++ [.tup [.int (m.size a - 1), intT (m.nouns (a : Nat))]] ++ Z ++ [.tup [.int 1, intT (m.nouns (a : Nat))]]), .tup B, .tup C])) ⟨[.sv m.d, .sv (.int (a : Nat)), .sv (.tup (m.rows.map rowD)), .sv (.tup (m.verbs.map relD)), .sv (.tup (m.selfs.map intT)), .sv (.int (m.rows.length : Nat)), .sv (.int (m.size a)), .sv (intT (m.nouns (a : Nat))), .own B, x9, x10, .un], cs⟩ := by
    unfold B__law_parted
    refine (seq (s1 := ⟨[.sv m.d, .sv (.int (a : Nat)), .sv (.tup (m.rows.map rowD)), .sv (.tup (m.verbs.map relD)), .sv (.tup (m.selfs.map intT)), .un, .un, .un, .un, .un, .un, .un], cs⟩) (by simp [Mdl.d])).trans ?_
    refine (seq (s1 := ⟨[.sv m.d, .sv (.int (a : Nat)), .sv (.tup (m.rows.map rowD)), .sv (.tup (m.verbs.map relD)), .sv (.tup (m.selfs.map intT)), .sv (.int (m.rows.length : Nat)), .un, .un, .un, .un, .un, .un], cs⟩) (by simp)).trans ?_
    refine (seq (s1 := ⟨[.sv m.d, .sv (.int (a : Nat)), .sv (.tup (m.rows.map rowD)), .sv (.tup (m.verbs.map relD)), .sv (.tup (m.selfs.map intT)), .sv (.int (m.rows.length : Nat)), .sv (.int (m.size a)), .sv (intT (m.nouns (a : Nat))), .un, .un, .un, .un], cs⟩) (by simp [ra])).trans ?_
    refine (seq (s1 := ⟨[.sv m.d, .sv (.int (a : Nat)), .sv (.tup (m.rows.map rowD)), .sv (.tup (m.verbs.map relD)), .sv (.tup (m.selfs.map intT)), .sv (.int (m.rows.length : Nat)), .sv (.int (m.size a)), .sv (intT (m.nouns (a : Nat))), .own [], .un, .un, .un], cs⟩) (by simp)).trans ?_
    refine (seq (s1 := ⟨[.sv m.d, .sv (.int (a : Nat)), .sv (.tup (m.rows.map rowD)), .sv (.tup (m.verbs.map relD)), .sv (.tup (m.selfs.map intT)), .sv (.int (m.rows.length : Nat)), .sv (.int (m.size a)), .sv (intT (m.nouns (a : Nat))), .own B, x9, x10, .un], cs⟩) ?_).trans ?_
    · have hi : (iSeq (eV 3)) ⟨[.sv m.d, .sv (.int (a : Nat)), .sv (.tup (m.rows.map rowD)), .sv (.tup (m.verbs.map relD)), .sv (.tup (m.selfs.map intT)), .sv (.int (m.rows.length : Nat)), .sv (.int (m.size a)), .sv (intT (m.nouns (a : Nat))), .own [], .un, .un, .un], cs⟩ = .ok (m.verbs.map relD) ⟨[.sv m.d, .sv (.int (a : Nat)), .sv (.tup (m.rows.map rowD)), .sv (.tup (m.verbs.map relD)), .sv (.tup (m.selfs.map intT)), .sv (.int (m.rows.length : Nat)), .sv (.int (m.size a)), .sv (intT (m.nouns (a : Nat))), .own [], .un, .un, .un], cs⟩ := by simp
      rw [x_sFor, hi, bind_ok]
      exact e4
    · have l3 : A.length + 1 ≤ 100000 := by omega
      have l4 : A.length + 1 + Z.length ≤ 100000 := by omega
      have l5 : A.length + 1 + Z.length + 1 ≤ 100000 := by omega
      have l6 : A.length + (Z.length + 1) ≤ 100000 := by omega
      have l7 : A.length + (Z.length + 1) + 1 ≤ 100000 := by omega
      have l8 : A.length + (Z.length + 1 + 1) ≤ 100000 := by omega
      simp [c1, c2, e6, l3, l4, l5, l6, l7, l8]
  rw [e]
  rfl
end
/-! ## the law -/
theorem pop_comp {q0 q2 q3 q4 : Slot} : ∀ (ds left : List D) (s : Strm) (x6 : Slot), ds.length ≤ left.length → left.length ≤ 12 →
    ∃ (ys left' : List D) (s' : Strm) (x6' : Slot), compL [14] (gN 14) tYes (ePop 5 (eCall (F__law_next) (aCons (eV 1) (aCons (eC1 lenD (eVB 5)) (aNil))))) ds (⟨[q0, .sv (.cell 0), q2, q3, q4, .own left, .un, .un, .un, .un, .un, .un, .un, .un, x6, .un], [s.c]⟩ : S) = .ok ys (⟨[q0, .sv (.cell 0), q2, q3, q4, .own left', .un, .un, .un, .un, .un, .un, .un, .un, x6', .un], [s'.c]⟩ : S) ∧ (ys ++ left').Perm left ∧ ys.length = ds.length
  | [], left, s, x6, _, _ => ⟨[], left, s, x6, by simp [compL], List.Perm.refl _, rfl⟩
  | d :: ds, left, s, x6, h, h12 => by
    have hpos : 0 < left.length := by simp at h; omega
    obtain ⟨i, s1, e1, i0, i1⟩ := s_next s left.length (by omega) (by omega)
    have hi : i.toNat < left.length := by omega
    have hsq : seqIndex? i left.length = some i.toNat := seqIndex_of i0 i1
    have hpop : popI left i = some (i.toNat, left[i.toNat]) := by
      unfold popI
      rw [if_pos ⟨by omega, by omega⟩, hsq]
      simp [hi]
    have hel : (left.eraseIdx i.toNat).length = left.length - 1 := by rw [List.length_eraseIdx, if_pos hi]
    obtain ⟨ys, left', s', x6', e2, p2, l2⟩ := pop_comp (q0 := q0) (q2 := q2) (q3 := q3) (q4 := q4) ds (left.eraseIdx i.toNat) s1 (.sv d) (by rw [hel]; simp at h; omega) (by omega)
    refine ⟨left[i.toNat] :: ys, left', s', x6', ?_, ?_, by simp [l2]⟩
    · rw [compL]
      have ep : (ePop 5 (eCall (F__law_next) (aCons (eV 1) (aCons (eC1 lenD (eVB 5)) (aNil))))) (⟨[q0, .sv (.cell 0), q2, q3, q4, .own left, .un, .un, .un, .un, .un, .un, .un, .un, .sv d, .un], [s.c]⟩ : S) = .ok left[i.toNat] (⟨[q0, .sv (.cell 0), q2, q3, q4, .own (left.eraseIdx i.toNat), .un, .un, .un, .un, .un, .un, .un, .un, .sv d, .un], [s1.c]⟩ : S) := by
        have ei : (eCall (F__law_next) (aCons (eV 1) (aCons (eC1 lenD (eVB 5)) (aNil)))) (⟨[q0, .sv (.cell 0), q2, q3, q4, .own left, .un, .un, .un, .un, .un, .un, .un, .un, .sv d, .un], [s.c]⟩ : S) = .ok (.int i) (⟨[q0, .sv (.cell 0), q2, q3, q4, .own left, .un, .un, .un, .un, .un, .un, .un, .un, .sv d, .un], [s1.c]⟩ : S) := by
          simp [e1]
        unfold ePop
        simp only [List.getElem?_cons_succ, List.getElem?_cons_zero]
        rw [ei, bind_ok]
        simp only [List.getElem?_cons_succ, List.getElem?_cons_zero, hpop]
        rfl
      have eg : (gN 14) d (wipeS [14] (⟨[q0, .sv (.cell 0), q2, q3, q4, .own left, .un, .un, .un, .un, .un, .un, .un, .un, x6, .un], [s.c]⟩ : S)) = .ok () (⟨[q0, .sv (.cell 0), q2, q3, q4, .own left, .un, .un, .un, .un, .un, .un, .un, .un, .sv d, .un], [s.c]⟩ : S) := by simp
      have et : (tYes (⟨[q0, .sv (.cell 0), q2, q3, q4, .own left, .un, .un, .un, .un, .un, .un, .un, .un, .sv d, .un], [s.c]⟩ : S) : Res Bool) = .ok true (⟨[q0, .sv (.cell 0), q2, q3, q4, .own left, .un, .un, .un, .un, .un, .un, .un, .un, .sv d, .un], [s.c]⟩ : S) := rfl
      rw [eg, bind_ok, et, bind_ok, if_pos rfl, ep, bind_ok, e2, bind_ok]
    · exact (List.Perm.cons _ p2).trans (erase_perm hi)
theorem order_lc (n : Nat) (hl : n ≤ 12) {p0 p2 p3 : Slot} (s : Strm) : ∃ (O : List Int) (s' : Strm), Ord n O ∧
    (aLc [14] (iRn1 (aCons (eV 4) (aNil))) (gN 14) (tYes) (ePop 5 (eCall (F__law_next) (aCons (eV 1) (aCons (eC1 lenD (eVB 5)) (aNil)))))) ⟨[p0, .sv (.cell 0), p2, p3, .sv (.int (n : Nat)), .own (rngL 0 (n : Nat)), .un, .un, .un, .un, .un, .un, .un, .un, .un, .un], [s.c]⟩ = .ok (O.map D.int) ⟨[p0, .sv (.cell 0), p2, p3, .sv (.int (n : Nat)), .own [], .un, .un, .un, .un, .un, .un, .un, .un, .un, .un], [s'.c]⟩ := by
  have rl : (rngL 0 (n : Nat)).length = n := by rw [rng_len]; omega
  obtain ⟨ys, left', s', x6, e, p, ly⟩ := pop_comp (q0 := p0) (q2 := p2) (q3 := p3) (q4 := .sv (.int (n : Nat))) (rngL 0 (n : Nat)) (rngL 0 (n : Nat)) s .un (Nat.le_refl _) (by omega)
  have l0 : left' = [] := by
    have := p.length_eq
    rw [List.length_append, ly] at this
    exact List.eq_nil_of_length_eq_zero (by omega)
  subst l0
  rw [List.append_nil] at p
  have yi : ys = (ys.map toI).map D.int := by
    rw [List.map_map]
    refine (List.map_id' ys).symm.trans (List.map_congr_left fun y hy => ?_)
    obtain ⟨i, _, _, rfl⟩ := rng_mem.mp (p.mem_iff.mp hy)
    rfl
  refine ⟨ys.map toI, s', ⟨?_⟩, ?_⟩
  · have := p.map toI
    have e2 : (rngL 0 (n : Nat)).map toI = nmap (List.range n) := by
      rw [rngM, List.map_map]
      rfl
    rw [e2] at this
    exact this
  · rw [← yi]
    have m1 : (n : Int) < 4611686018427387904 := by omega
    have m2 : -4611686018427387904 ≤ (n : Int) := by omega
    have ef : (iRn1 (aCons (eV 4) (aNil))) ⟨[p0, .sv (.cell 0), p2, p3, .sv (.int (n : Nat)), .own (rngL 0 (n : Nat)), .un, .un, .un, .un, .un, .un, .un, .un, .un, .un], [s.c]⟩ = .ok (rngL 0 (n : Nat)) ⟨[p0, .sv (.cell 0), p2, p3, .sv (.int (n : Nat)), .own (rngL 0 (n : Nat)), .un, .un, .un, .un, .un, .un, .un, .un, .un, .un], [s.c]⟩ := by
      simp [m1, m2]
    unfold aLc
    rw [ef, bind_ok, if_pos (by omega), e, nox_ok, bind_ok]
    rfl
def Sen.free : Sen → Bool
  | .vb _ _ d _ _ p _ => d == (p == 0)
  | _ => false
theorem twice_gh {g : Sig} {m : Mdl} {z : Sen} (h : m.gd g) (hz : z.ok g) (hf : z.free = false) : z.gh (m.un m) = z.gh m := by
  have both : z.rule = 9 → z.gh (m.un m) = z.gh m := fun r => by rw [un_both h h hz r, Bool.and_self]
  have one : z.rule = 8 → z.gh (m.un m) = z.gh m := fun r => by rw [un_one h h hz r, Bool.or_self]
  cases z with
  | nn w x y =>
    rcases w6 hz.1 with rfl | rfl | rfl | rfl | rfl | rfl
    · exact both rfl
    · exact one rfl
    · exact one rfl
    · exact both rfl
    · have : (m.gsize y + m.gsize y ≤ m.gsize x + m.gsize x) ↔ m.gsize y ≤ m.gsize x := by omega
      simp [Sen.gh, un_gsize, this]
    · have : (m.gsize x + m.gsize x < m.gsize y + m.gsize y) ↔ m.gsize x < m.gsize y := by omega
      simp [Sen.gh, un_gsize, this]
  | se q x d v => rcases w2 hz.1 with rfl | rfl <;> first | exact both rfl | exact one rfl
  | vb q x d v b p y =>
    have hc : (d == (p == 1)) = true := by
      rcases w2 hz.2.2.2.1 with rfl | rfl <;> cases d <;> first | rfl | (simp [Sen.free] at hf)
    rcases w2 hz.1 with rfl | rfl
    · exact both (by simp [Sen.rule, hc])
    · exact one (by simp [Sen.rule, hc])
theorem iso_gh {g : Sig} {m k : Mdl} {φ : Pr → Pr} {z : Sen} (I : Iso g m k φ) (hm : m.ok g) (hk : k.ok g) (hz : z.ok g) : z.gh k = z.gh m := by
  rw [gh_holds hm hz, gh_holds hk hz, I.holds hz]
theorem no_tell {m k : Mdl} {ev : List Sen} (h : ∀ z ∈ ev, z.gh k = z.gh m) : ev.find? (tell m k) = none ∧ ev.find? (tell k m) = none := by
  refine ⟨List.find?_eq_none.mpr fun z hz => ?_, List.find?_eq_none.mpr fun z hz => ?_⟩ <;> (unfold tell; rw [h z hz]; simp)
theorem law_true : ∀ ns : List Int, ns.length ≤ 63 → ∃ s, F_law [.scr ns] [] = .ok (.bl true) s := by
  intro ns _
  obtain ⟨s0, f0⟩ := s_stream ns
  obtain ⟨g, s1, f1, hg⟩ := s_signature s0
  obtain ⟨m, s2, f2, hm, m4⟩ := s_model s1 g 4 (by decide) (by decide)
  have n2 : -4611686018427387904 ≤ (m.rows.length : Int) := by omega
  have n3 : (m.rows.length : Int) ≤ 100000 := by omega
  have n4 : (m.rows.length : Int) < 4611686018427387904 := by omega
  obtain ⟨ev, hev⟩ : ∃ ev, everyS g.n.toNat g.v.toNat = ev := ⟨_, rfl⟩
  have t1 : ∀ cs, F__law_every [g.d] cs = .ok (.lst (ev.map Sen.d)) ⟨[], cs⟩ := fun cs => hev ▸ l_every hg
  have eok : ∀ y ∈ ev, y.ok g := fun y hy => every_ok (hev ▸ hy)
  have hle : ev.length ≤ 1000 := by
    rw [← hev]
    rcases hg with rfl | rfl | rfl | rfl | rfl <;> decide +kernel
  have e0 : (sSet 1 (eCall (F__law_stream) (aCons (eV 0) (aNil)))) ⟨[.sv (.scr ns), .un, .un, .un, .un, .un, .un, .un, .un, .un, .un, .un, .un, .un, .un, .un], []⟩ = .ok .nx ⟨[.sv (.scr ns), .sv (.cell 0), .un, .un, .un, .un, .un, .un, .un, .un, .un, .un, .un, .un, .un, .un], [s0.c]⟩ := by
    simp [f0]
  have e1 : (sSet 2 (eCall (F__law_signature) (aCons (eV 1) (aNil)))) ⟨[.sv (.scr ns), .sv (.cell 0), .un, .un, .un, .un, .un, .un, .un, .un, .un, .un, .un, .un, .un, .un], [s0.c]⟩ = .ok .nx ⟨[.sv (.scr ns), .sv (.cell 0), .sv g.d, .un, .un, .un, .un, .un, .un, .un, .un, .un, .un, .un, .un, .un], [s1.c]⟩ := by
    simp [f1]
  have e2 : (sSet 3 (eCall (F__law_model) (aCons (eV 1) (aCons (eV 2) (aCons (eC (.int 4)) (aNil)))))) ⟨[.sv (.scr ns), .sv (.cell 0), .sv g.d, .un, .un, .un, .un, .un, .un, .un, .un, .un, .un, .un, .un, .un], [s1.c]⟩ = .ok .nx ⟨[.sv (.scr ns), .sv (.cell 0), .sv g.d, .sv m.d, .un, .un, .un, .un, .un, .un, .un, .un, .un, .un, .un, .un], [s2.c]⟩ := by
    simp [f2]
  have e3 : (sSet 4 (eC1 lenD (eOp ixD (eV 3) (eC (.int 0))))) ⟨[.sv (.scr ns), .sv (.cell 0), .sv g.d, .sv m.d, .un, .un, .un, .un, .un, .un, .un, .un, .un, .un, .un, .un], [s2.c]⟩ = .ok .nx ⟨[.sv (.scr ns), .sv (.cell 0), .sv g.d, .sv m.d, .sv (.int (m.rows.length : Nat)), .un, .un, .un, .un, .un, .un, .un, .un, .un, .un, .un], [s2.c]⟩ := by
    simp [Mdl.d]
  have e4 : (sOwn 5 (aLr (eV 4))) ⟨[.sv (.scr ns), .sv (.cell 0), .sv g.d, .sv m.d, .sv (.int (m.rows.length : Nat)), .un, .un, .un, .un, .un, .un, .un, .un, .un, .un, .un], [s2.c]⟩ = .ok .nx ⟨[.sv (.scr ns), .sv (.cell 0), .sv g.d, .sv m.d, .sv (.int (m.rows.length : Nat)), .own (rngL 0 (m.rows.length : Nat)), .un, .un, .un, .un, .un, .un, .un, .un, .un, .un], [s2.c]⟩ := by
    simp [n2, n3]
  obtain ⟨O, s3, o, f5⟩ := order_lc m.rows.length hm.len (p0 := .sv (.scr ns)) (p2 := .sv g.d) (p3 := .sv m.d) s2
  have e5 : (sSet 6 (eF (aLc [14] (iRn1 (aCons (eV 4) (aNil))) (gN 14) (tYes) (ePop 5 (eCall (F__law_next) (aCons (eV 1) (aCons (eC1 lenD (eVB 5)) (aNil)))))))) ⟨[.sv (.scr ns), .sv (.cell 0), .sv g.d, .sv m.d, .sv (.int (m.rows.length : Nat)), .own (rngL 0 (m.rows.length : Nat)), .un, .un, .un, .un, .un, .un, .un, .un, .un, .un], [s2.c]⟩ = .ok .nx ⟨[.sv (.scr ns), .sv (.cell 0), .sv g.d, .sv m.d, .sv (.int (m.rows.length : Nat)), .own [], .sv (.lst (O.map D.int)), .un, .un, .un, .un, .un, .un, .un, .un, .un], [s3.c]⟩ := by
    simp [f5]
  obtain ⟨l, f6⟩ := l_exchanged (c := s3.c) hm o
  have e6 : (sOwn 7 (aCons (eCall (F__law_exchanged) (aCons (eV 3) (aCons (eV 6) (aNil)))) (aNil))) ⟨[.sv (.scr ns), .sv (.cell 0), .sv g.d, .sv m.d, .sv (.int (m.rows.length : Nat)), .own [], .sv (.lst (O.map D.int)), .un, .un, .un, .un, .un, .un, .un, .un, .un], [s3.c]⟩ = .ok .nx ⟨[.sv (.scr ns), .sv (.cell 0), .sv g.d, .sv m.d, .sv (.int (m.rows.length : Nat)), .own [], .sv (.lst (O.map D.int)), .own [(m.moved O).d], .un, .un, .un, .un, .un, .un, .un, .un], [s3.c, .dic l]⟩ := by
    simp [f6]
  obtain ⟨gr, hgr⟩ : ∃ gr, (zts m.rows.length).filter (fun k => decide (1 < m.size k.toNat)) = gr := ⟨_, rfl⟩
  have c7 : ∀ s1 : S, s1 = ⟨[.sv (.scr ns), .sv (.cell 0), .sv g.d, .sv m.d, .sv (.int (m.rows.length : Nat)), .own [], .sv (.lst (O.map D.int)), .own [(m.moved O).d], .un, .un, .un, .un, .un, .un, .un, .un], [s3.c, .dic l]⟩ → (aLc [15] (iRn1 (aCons (eV 4) (aNil))) (gN 15) (tV (eOp gtD (eOp ixD (eOp ixD (eOp ixD (eV 3) (eC (.int 0))) (eV 15)) (eC (.int 0))) (eC (.int 1)))) (eV 15)) s1 = .ok (gr.map D.int) s1 := by
    rintro s1 rfl
    rw [← hgr]
    refine lcT (inj := D.int) (zts m.rows.length) (fun k => decide (1 < m.size k.toNat)) D.int (by simp [rngL_zts, n2, n4]) (by rw [zts_length]; omega) (by simp) fun k hk => ?_
    obtain ⟨k0, k1⟩ := mem_zts.mp hk
    exact ⟨by simp [Mdl.d, row_at k0 k1], fun _ => by simp⟩
  have c7 := c7 _ rfl
  have grm : ∀ k ∈ gr, 0 ≤ k ∧ k < m.rows.length ∧ 1 < m.size k.toNat := fun k hk => by
    rw [← hgr] at hk
    obtain ⟨h1, h2⟩ := List.mem_filter.mp hk
    obtain ⟨k0, k1⟩ := mem_zts.mp h1
    exact ⟨k0, k1, of_decide_eq_true h2⟩
  have grl : gr.length ≤ 12 := by
    have := List.length_filter_le (fun k => decide (1 < m.size k.toNat)) (zts m.rows.length)
    rw [zts_length, hgr] at this
    omega
  have e7 : (sSet 8 (eF (aLc [15] (iRn1 (aCons (eV 4) (aNil))) (gN 15) (tV (eOp gtD (eOp ixD (eOp ixD (eOp ixD (eV 3) (eC (.int 0))) (eV 15)) (eC (.int 0))) (eC (.int 1)))) (eV 15)))) ⟨[.sv (.scr ns), .sv (.cell 0), .sv g.d, .sv m.d, .sv (.int (m.rows.length : Nat)), .own [], .sv (.lst (O.map D.int)), .own [(m.moved O).d], .un, .un, .un, .un, .un, .un, .un, .un], [s3.c, .dic l]⟩ = .ok .nx ⟨[.sv (.scr ns), .sv (.cell 0), .sv g.d, .sv m.d, .sv (.int (m.rows.length : Nat)), .own [], .sv (.lst (O.map D.int)), .own [(m.moved O).d], .sv (.lst (gr.map D.int)), .un, .un, .un, .un, .un, .un, .un], [s3.c, .dic l]⟩ := by
    simp [c7]
  have k0 := moved_gd hm o
  have kh := fun z (hz : z.ok g) => iso_gh (z := z) (moved_iso hm o) hm.took k0.took hz
  obtain ⟨ks, s4, e8, kl, kg⟩ : ∃ (ks : List Mdl) (s4 : Strm), (sIf (tU (eVB 8)) (sApp 7 (eCall (F__law_parted) (aCons (eV 3) (aCons (eOp ixD (eV 8) (eCall (F__law_next) (aCons (eV 1) (aCons (eC1 lenD (eVB 8)) (aNil))))) (aNil))))) (sNil)) ⟨[.sv (.scr ns), .sv (.cell 0), .sv g.d, .sv m.d, .sv (.int (m.rows.length : Nat)), .own [], .sv (.lst (O.map D.int)), .own [(m.moved O).d], .sv (.lst (gr.map D.int)), .un, .un, .un, .un, .un, .un, .un], [s3.c, .dic l]⟩ = .ok .nx ⟨[.sv (.scr ns), .sv (.cell 0), .sv g.d, .sv m.d, .sv (.int (m.rows.length : Nat)), .own [], .sv (.lst (O.map D.int)), .own (ks.map Mdl.d), .sv (.lst (gr.map D.int)), .un, .un, .un, .un, .un, .un, .un], [Strm.c s4, .dic l]⟩ ∧ ks.length ≤ 2 ∧ ∀ k ∈ ks, k.gd g ∧ ∀ z : Sen, z.ok g → z.gh k = z.gh m := by
    cases hc : gr with
    | nil =>
      refine ⟨[m.moved O], s3, by simp, by simp, fun k hk => ?_⟩
      rw [List.mem_singleton] at hk
      subst hk
      exact ⟨k0, kh⟩
    | cons x t =>
      obtain ⟨i, s4, q1, i0, i1⟩ := s_next2 s3 [.dic l] ((x :: t).length : Nat) (by simp; try omega) (by rw [← hc]; omega)
      have hi : i.toNat < (x :: t).length := by omega
      obtain ⟨a0, a1, a2⟩ := grm (x :: t)[i.toNat] (by rw [hc]; exact List.getElem_mem hi)
      have q2 : atI ((x :: t).map D.int) i = some (.int ((x :: t)[i.toNat])) := by
        rw [atI_int i0, List.getElem?_map, List.getElem?_eq_getElem hi]
        rfl
      generalize (x :: t)[i.toNat] = a at q2 a0 a1 a2
      obtain ⟨b, rfl⟩ : ∃ b : Nat, a = b := ⟨a.toNat, by omega⟩
      rw [Int.toNat_natCast] at a2
      have q3 := fun cs => l_parted (cs := cs) hm (show b < m.rows.length by omega)
      refine ⟨[m.moved O, m.parted b], s4, ?_, by simp, fun k hk => ?_⟩
      · rw [List.map_cons] at q2 ⊢
        rw [List.length_cons, show (((t.length + 1 : Nat)) : Int) = (t.length : Int) + 1 from by omega] at q1
        simp [q1, q2, q3]
      · rcases List.mem_cons.mp hk with rfl | hk
        · exact ⟨k0, kh⟩
        · rw [List.mem_singleton] at hk
          subst hk
          have hp := parted_gd hm m4 (show b < m.rows.length by omega) a2
          exact ⟨hp, fun z hz => iso_gh (parted_iso hm (by omega) a2) hm.took hp.took hz⟩
  have e9 : (sSet 9 (eCall (F__law_every) (aCons (eV 2) (aNil)))) ⟨[.sv (.scr ns), .sv (.cell 0), .sv g.d, .sv m.d, .sv (.int (m.rows.length : Nat)), .own [], .sv (.lst (O.map D.int)), .own (ks.map Mdl.d), .sv (.lst (gr.map D.int)), .un, .un, .un, .un, .un, .un, .un], [s4.c, .dic l]⟩ = .ok .nx ⟨[.sv (.scr ns), .sv (.cell 0), .sv g.d, .sv m.d, .sv (.int (m.rows.length : Nat)), .own [], .sv (.lst (O.map D.int)), .own (ks.map Mdl.d), .sv (.lst (gr.map D.int)), .sv (.lst (ev.map Sen.d)), .un, .un, .un, .un, .un, .un], [s4.c, .dic l]⟩ := by
    simp [t1]
  obtain ⟨sl, el, x10, rfl⟩ := forL_inv (g := gN 10) (b := (sCons (sIf (tO (tV (eOp notBOp (eCall (F_agree) (aCons (eV 2) (aCons (eV 3) (aCons (eV 10) (aNil))))) (eC (.bl true)))) (tV (eOp notNOp (eCall (F_told_sentence) (aCons (eV 2) (aCons (eV 10) (aCons (eV 3) (aNil))))) (eC .non)))) (sRet (eC (.bl false))) (sNil))
  (sIf (tN (tU (eC1 allD (eF (aLc [11] (iSeq (eV 9)) (gN 11) (tYes) (eOp eqOp (eCall (F__law_holds) (aCons (eV 3) (aCons (eV 11) (aNil)))) (eCall (F__law_holds) (aCons (eV 10) (aCons (eV 11) (aNil)))))))))) (sRet (eC (.bl false))) (sNil)))) (I := fun s => ∃ x10 : Slot, s = ⟨[.sv (.scr ns), .sv (.cell 0), .sv g.d, .sv m.d, .sv (.int (m.rows.length : Nat)), .own [], .sv (.lst (O.map D.int)), .sv (.lst (ks.map Mdl.d)), .sv (.lst (gr.map D.int)), .sv (.lst (ev.map Sen.d)), x10, .un, .un, .un, .un, .un], [s4.c, .dic l]⟩) (ds := ks.map Mdl.d) (s := ⟨[.sv (.scr ns), .sv (.cell 0), .sv g.d, .sv m.d, .sv (.int (m.rows.length : Nat)), .own [], .sv (.lst (O.map D.int)), .sv (.lst (ks.map Mdl.d)), .sv (.lst (gr.map D.int)), .sv (.lst (ev.map Sen.d)), .un, .un, .un, .un, .un, .un], [s4.c, .dic l]⟩) ⟨_, rfl⟩ (fun dd hd s hs => by
    obtain ⟨x10, rfl⟩ := hs
    obtain ⟨k, hk, rfl⟩ := List.mem_map.mp hd
    obtain ⟨kg1, kg2⟩ := kg k hk
    obtain ⟨u1, u2⟩ := no_tell (m := m) (k := k) (ev := ev) fun z hz => kg2 z (eok z hz)
    have r1 := p_agree (cs := [s4.c, .dic l]) hg hm kg1
    have r2 := p_told (cs := [s4.c, .dic l]) hg kg1 hm
    rw [hev, u1] at r1
    rw [hev, u2] at r2
    have r3 : ∀ s1 : S, s1 = ⟨[.sv (.scr ns), .sv (.cell 0), .sv g.d, .sv m.d, .sv (.int (m.rows.length : Nat)), .own [], .sv (.lst (O.map D.int)), .sv (.lst (ks.map Mdl.d)), .sv (.lst (gr.map D.int)), .sv (.lst (ev.map Sen.d)), .sv k.d, .un, .un, .un, .un, .un], [s4.c, .dic l]⟩ → (aLc [11] (iSeq (eV 9)) (gN 11) (tYes) (eOp eqOp (eCall (F__law_holds) (aCons (eV 3) (aCons (eV 11) (aNil)))) (eCall (F__law_holds) (aCons (eV 10) (aCons (eV 11) (aNil)))))) s1 = .ok (ev.map fun z => D.bl (z.gh m == z.gh k)) s1 := by
      rintro s1 rfl
      refine lcM (inj := Sen.d) ev (fun z => D.bl (z.gh m == z.gh k)) (by simp) (by omega) (by simp) fun z hz => ?_
      have r1 := l_holds (cs := [s4.c, .dic l]) hm.took (eok z hz)
      have r2 := l_holds (cs := [s4.c, .dic l]) kg1.took (eok z hz)
      simp [r1, r2]
    have r3 := r3 _ rfl
    have r4 : allD (.lst (ev.map fun z => D.bl (z.gh m == z.gh k))) = some (.bl true) := by
      have w : (ev.map fun z => z.gh m == z.gh k).all id = true := by
        rw [List.all_map, List.all_eq_true]
        intro z hz
        simp [kg2 z (eok z hz)]
      rw [x_all, bools_all ev fun z => z.gh m == z.gh k]
      show some (D.bl ((ev.map fun z => z.gh m == z.gh k).all id)) = _
      rw [w]
    have r5 : optD none = D.non := rfl
    generalize (ev.map fun z => D.bl (z.gh m == z.gh k)) = A at r3 r4
    refine ⟨⟨[.sv (.scr ns), .sv (.cell 0), .sv g.d, .sv m.d, .sv (.int (m.rows.length : Nat)), .own [], .sv (.lst (O.map D.int)), .sv (.lst (ks.map Mdl.d)), .sv (.lst (gr.map D.int)), .sv (.lst (ev.map Sen.d)), .sv k.d, .un, .un, .un, .un, .un], [s4.c, .dic l]⟩, ?_, _, rfl⟩
    simp [r1, r2, r3, r4, r5, -x_all])
  have e10 : (sFor (iSeq (eV 7)) (gN 10) (sCons (sIf (tO (tV (eOp notBOp (eCall (F_agree) (aCons (eV 2) (aCons (eV 3) (aCons (eV 10) (aNil))))) (eC (.bl true)))) (tV (eOp notNOp (eCall (F_told_sentence) (aCons (eV 2) (aCons (eV 10) (aCons (eV 3) (aNil))))) (eC .non)))) (sRet (eC (.bl false))) (sNil))
  (sIf (tN (tU (eC1 allD (eF (aLc [11] (iSeq (eV 9)) (gN 11) (tYes) (eOp eqOp (eCall (F__law_holds) (aCons (eV 3) (aCons (eV 11) (aNil)))) (eCall (F__law_holds) (aCons (eV 10) (aCons (eV 11) (aNil)))))))))) (sRet (eC (.bl false))) (sNil)))) ⟨[.sv (.scr ns), .sv (.cell 0), .sv g.d, .sv m.d, .sv (.int (m.rows.length : Nat)), .own [], .sv (.lst (O.map D.int)), .own (ks.map Mdl.d), .sv (.lst (gr.map D.int)), .sv (.lst (ev.map Sen.d)), .un, .un, .un, .un, .un, .un], [s4.c, .dic l]⟩ = .ok .nx ⟨[.sv (.scr ns), .sv (.cell 0), .sv g.d, .sv m.d, .sv (.int (m.rows.length : Nat)), .own [], .sv (.lst (O.map D.int)), .sv (.lst (ks.map Mdl.d)), .sv (.lst (gr.map D.int)), .sv (.lst (ev.map Sen.d)), x10, .un, .un, .un, .un, .un], [s4.c, .dic l]⟩ := by
    have hi : (iSeq (eV 7)) ⟨[.sv (.scr ns), .sv (.cell 0), .sv g.d, .sv m.d, .sv (.int (m.rows.length : Nat)), .own [], .sv (.lst (O.map D.int)), .own (ks.map Mdl.d), .sv (.lst (gr.map D.int)), .sv (.lst (ev.map Sen.d)), .un, .un, .un, .un, .un, .un], [s4.c, .dic l]⟩ = .ok (ks.map Mdl.d) ⟨[.sv (.scr ns), .sv (.cell 0), .sv g.d, .sv m.d, .sv (.int (m.rows.length : Nat)), .own [], .sv (.lst (O.map D.int)), .sv (.lst (ks.map Mdl.d)), .sv (.lst (gr.map D.int)), .sv (.lst (ev.map Sen.d)), .un, .un, .un, .un, .un, .un], [s4.c, .dic l]⟩ := by simp
    rw [x_sFor, hi, bind_ok]
    exact el
  have e11 : (sSet 12 (eCall (F_union) (aCons (eV 2) (aCons (eV 3) (aCons (eV 3) (aNil)))))) ⟨[.sv (.scr ns), .sv (.cell 0), .sv g.d, .sv m.d, .sv (.int (m.rows.length : Nat)), .own [], .sv (.lst (O.map D.int)), .sv (.lst (ks.map Mdl.d)), .sv (.lst (gr.map D.int)), .sv (.lst (ev.map Sen.d)), x10, .un, .un, .un, .un, .un], [s4.c, .dic l]⟩ = .ok .nx ⟨[.sv (.scr ns), .sv (.cell 0), .sv g.d, .sv m.d, .sv (.int (m.rows.length : Nat)), .own [], .sv (.lst (O.map D.int)), .sv (.lst (ks.map Mdl.d)), .sv (.lst (gr.map D.int)), .sv (.lst (ev.map Sen.d)), x10, .un, .sv (m.un m).d, .un, .un, .un], [s4.c, .dic l]⟩ := by
    simp [p_union hm hm m4 m4]
  have hu := un_gd hm hm m4 m4
  obtain ⟨sl2, el2, x11, x13, rfl⟩ := forL_inv (g := gN 11) (b := (sCons (sSet 13 (eAnd (eOp eqOp (eOp ixD (eV 11) (eC (.int 0))) (eC (.str 6))) (eOp eqOp (eOp isBOp (eOp ixD (eV 11) (eC (.int 3))) (eC (.bl true))) (eOp eqOp (eOp ixD (eV 11) (eC (.int 6))) (eC (.str 0))))))
  (sIf (tA (tN (tU (eVB 13))) (tV (eOp neOp (eCall (F__law_holds) (aCons (eV 3) (aCons (eV 11) (aNil)))) (eCall (F__law_holds) (aCons (eV 12) (aCons (eV 11) (aNil))))))) (sRet (eC (.bl false))) (sNil)))) (I := fun s => ∃ x11 x13 : Slot, s = ⟨[.sv (.scr ns), .sv (.cell 0), .sv g.d, .sv m.d, .sv (.int (m.rows.length : Nat)), .own [], .sv (.lst (O.map D.int)), .sv (.lst (ks.map Mdl.d)), .sv (.lst (gr.map D.int)), .sv (.lst (ev.map Sen.d)), x10, x11, .sv (m.un m).d, x13, .un, .un], [s4.c, .dic l]⟩) (ds := ev.map Sen.d) (s := ⟨[.sv (.scr ns), .sv (.cell 0), .sv g.d, .sv m.d, .sv (.int (m.rows.length : Nat)), .own [], .sv (.lst (O.map D.int)), .sv (.lst (ks.map Mdl.d)), .sv (.lst (gr.map D.int)), .sv (.lst (ev.map Sen.d)), x10, .un, .sv (m.un m).d, .un, .un, .un], [s4.c, .dic l]⟩) ⟨_, _, rfl⟩ (fun dd hd s hs => by
    obtain ⟨x11, x13, rfl⟩ := hs
    obtain ⟨z, hz, rfl⟩ := List.mem_map.mp hd
    have zo := eok z hz
    have r1 := l_holds (cs := [s4.c, .dic l]) hm.took zo
    have r2 := l_holds (cs := [s4.c, .dic l]) hu.took zo
    refine ⟨⟨[.sv (.scr ns), .sv (.cell 0), .sv g.d, .sv m.d, .sv (.int (m.rows.length : Nat)), .own [], .sv (.lst (O.map D.int)), .sv (.lst (ks.map Mdl.d)), .sv (.lst (gr.map D.int)), .sv (.lst (ev.map Sen.d)), x10, .sv z.d, .sv (m.un m).d, .sv (.bl z.free), .un, .un], [s4.c, .dic l]⟩, ?_, _, _, rfl⟩
    have f1 : (sSet 13 (eAnd (eOp eqOp (eOp ixD (eV 11) (eC (.int 0))) (eC (.str 6))) (eOp eqOp (eOp isBOp (eOp ixD (eV 11) (eC (.int 3))) (eC (.bl true))) (eOp eqOp (eOp ixD (eV 11) (eC (.int 6))) (eC (.str 0)))))) ⟨[.sv (.scr ns), .sv (.cell 0), .sv g.d, .sv m.d, .sv (.int (m.rows.length : Nat)), .own [], .sv (.lst (O.map D.int)), .sv (.lst (ks.map Mdl.d)), .sv (.lst (gr.map D.int)), .sv (.lst (ev.map Sen.d)), x10, .sv z.d, .sv (m.un m).d, x13, .un, .un], [s4.c, .dic l]⟩ = .ok .nx ⟨[.sv (.scr ns), .sv (.cell 0), .sv g.d, .sv m.d, .sv (.int (m.rows.length : Nat)), .own [], .sv (.lst (O.map D.int)), .sv (.lst (ks.map Mdl.d)), .sv (.lst (gr.map D.int)), .sv (.lst (ev.map Sen.d)), x10, .sv z.d, .sv (m.un m).d, .sv (.bl z.free), .un, .un], [s4.c, .dic l]⟩ := by
      cases z with
      | nn w x y => rcases w6 zo.1 with rfl | rfl | rfl | rfl | rfl | rfl <;> simp [Sen.d, Sen.free]
      | se q x d v => simp [Sen.d, Sen.free]
      | vb q x d v b p y => rcases w2 zo.2.2.2.1 with rfl | rfl <;> cases d <;> simp [Sen.d, Sen.free]
    show ((Res.ok () ⟨[.sv (.scr ns), .sv (.cell 0), .sv g.d, .sv m.d, .sv (.int (m.rows.length : Nat)), .own [], .sv (.lst (O.map D.int)), .sv (.lst (ks.map Mdl.d)), .sv (.lst (gr.map D.int)), .sv (.lst (ev.map Sen.d)), x10, .sv z.d, .sv (m.un m).d, x13, .un, .un], [s4.c, .dic l]⟩).bind fun _ s1 => _) = _
    rw [bind_ok, seq f1]
    cases hf : z.free with
    | true => simp
    | false =>
      rw [twice_gh hm zo hf] at r2
      simp [r1, r2])
  have e12 : (sFor (iSeq (eV 9)) (gN 11) (sCons (sSet 13 (eAnd (eOp eqOp (eOp ixD (eV 11) (eC (.int 0))) (eC (.str 6))) (eOp eqOp (eOp isBOp (eOp ixD (eV 11) (eC (.int 3))) (eC (.bl true))) (eOp eqOp (eOp ixD (eV 11) (eC (.int 6))) (eC (.str 0))))))
  (sIf (tA (tN (tU (eVB 13))) (tV (eOp neOp (eCall (F__law_holds) (aCons (eV 3) (aCons (eV 11) (aNil)))) (eCall (F__law_holds) (aCons (eV 12) (aCons (eV 11) (aNil))))))) (sRet (eC (.bl false))) (sNil)))) ⟨[.sv (.scr ns), .sv (.cell 0), .sv g.d, .sv m.d, .sv (.int (m.rows.length : Nat)), .own [], .sv (.lst (O.map D.int)), .sv (.lst (ks.map Mdl.d)), .sv (.lst (gr.map D.int)), .sv (.lst (ev.map Sen.d)), x10, .un, .sv (m.un m).d, .un, .un, .un], [s4.c, .dic l]⟩ = .ok .nx ⟨[.sv (.scr ns), .sv (.cell 0), .sv g.d, .sv m.d, .sv (.int (m.rows.length : Nat)), .own [], .sv (.lst (O.map D.int)), .sv (.lst (ks.map Mdl.d)), .sv (.lst (gr.map D.int)), .sv (.lst (ev.map Sen.d)), x10, x11, .sv (m.un m).d, x13, .un, .un], [s4.c, .dic l]⟩ := by
    have hi : (iSeq (eV 9)) ⟨[.sv (.scr ns), .sv (.cell 0), .sv g.d, .sv m.d, .sv (.int (m.rows.length : Nat)), .own [], .sv (.lst (O.map D.int)), .sv (.lst (ks.map Mdl.d)), .sv (.lst (gr.map D.int)), .sv (.lst (ev.map Sen.d)), x10, .un, .sv (m.un m).d, .un, .un, .un], [s4.c, .dic l]⟩ = .ok (ev.map Sen.d) ⟨[.sv (.scr ns), .sv (.cell 0), .sv g.d, .sv m.d, .sv (.int (m.rows.length : Nat)), .own [], .sv (.lst (O.map D.int)), .sv (.lst (ks.map Mdl.d)), .sv (.lst (gr.map D.int)), .sv (.lst (ev.map Sen.d)), x10, .un, .sv (m.un m).d, .un, .un, .un], [s4.c, .dic l]⟩ := by simp
    rw [x_sFor, hi, bind_ok]
    exact el2
  have e13 : (sRet (eC (.bl true))) ⟨[.sv (.scr ns), .sv (.cell 0), .sv g.d, .sv m.d, .sv (.int (m.rows.length : Nat)), .own [], .sv (.lst (O.map D.int)), .sv (.lst (ks.map Mdl.d)), .sv (.lst (gr.map D.int)), .sv (.lst (ev.map Sen.d)), x10, x11, .sv (m.un m).d, x13, .un, .un], [s4.c, .dic l]⟩ = .ok (.rt (.bl true)) ⟨[.sv (.scr ns), .sv (.cell 0), .sv g.d, .sv m.d, .sv (.int (m.rows.length : Nat)), .own [], .sv (.lst (O.map D.int)), .sv (.lst (ks.map Mdl.d)), .sv (.lst (gr.map D.int)), .sv (.lst (ev.map Sen.d)), x10, x11, .sv (m.un m).d, x13, .un, .un], [s4.c, .dic l]⟩ := by simp
  have e : B_law ⟨[.sv (.scr ns), .un, .un, .un, .un, .un, .un, .un, .un, .un, .un, .un, .un, .un, .un, .un], []⟩ = .ok (.rt (.bl true)) ⟨[.sv (.scr ns), .sv (.cell 0), .sv g.d, .sv m.d, .sv (.int (m.rows.length : Nat)), .own [], .sv (.lst (O.map D.int)), .sv (.lst (ks.map Mdl.d)), .sv (.lst (gr.map D.int)), .sv (.lst (ev.map Sen.d)), x10, x11, .sv (m.un m).d, x13, .un, .un], [s4.c, .dic l]⟩ := by
    unfold B_law
    refine (seq e0).trans ?_
    refine (seq e1).trans ?_
    refine (seq e2).trans ?_
    refine (seq e3).trans ?_
    refine (seq e4).trans ?_
    refine (seq e5).trans ?_
    refine (seq e6).trans ?_
    refine (seq e7).trans ?_
    refine (seq e8).trans ?_
    refine (seq e9).trans ?_
    refine (seq e10).trans ?_
    refine (seq e11).trans ?_
    refine (seq e12).trans ?_
    exact e13
  refine ⟨⟨[], [s4.c, .dic l]⟩, ?_⟩
  show fnS0 16 B_law [.scr ns] [] = _
  rw [fnS0_eq]
  show fin (B_law ⟨[.sv (.scr ns), .un, .un, .un, .un, .un, .un, .un, .un, .un, .un, .un, .un, .un, .un, .un], []⟩) = _
  rw [e]
  rfl
theorem all_mk {l : PySem.W.OpenLaw} {q : Program} {w : World} {K : PySem.W.Frag} {h : Heap} {mg : Str → Option Value} {fa : Addr} (X : K.In h) (G : h.Ns mainGlobals mg) (hfa : mg "law" = some (.ref fa)) (DT : GXX.DefTabs q mg h)
    {f1 : Addr} {od1 an1 : Option Addr} {sl1 : Array (Option Value)} {oc1 kV1 dc1 pm1 cd1 ct1 : Value}
    (a1 : PySem.W.nsIn K mainGlobals "is_integer" = some (some (.ref f1))) (l1 : K.lookup f1 = some ⟨oc1, od1, .func (PySem.W.fnOf "is_integer" "is_integer" (defArgs sis_integer) (defBody sis_integer) (defScope sis_integer) .none kV1 dc1 pm1 an1 cd1 ct1), sl1⟩) (c1 : PySem.W.codeIn K cd1 "is_integer" = true) (k1 : PySem.W.keepIn K (.ref f1) = true)
    {f2 : Addr} {od2 an2 : Option Addr} {sl2 : Array (Option Value)} {oc2 kV2 dc2 pm2 cd2 ct2 : Value}
    (a2 : PySem.W.nsIn K mainGlobals "is_noun" = some (some (.ref f2))) (l2 : K.lookup f2 = some ⟨oc2, od2, .func (PySem.W.fnOf "is_noun" "is_noun" (defArgs sis_noun) (defBody sis_noun) (defScope sis_noun) .none kV2 dc2 pm2 an2 cd2 ct2), sl2⟩) (c2 : PySem.W.codeIn K cd2 "is_noun" = true) (k2 : PySem.W.keepIn K (.ref f2) = true)
    {f3 : Addr} {od3 an3 : Option Addr} {sl3 : Array (Option Value)} {oc3 kV3 dc3 pm3 cd3 ct3 : Value}
    (a3 : PySem.W.nsIn K mainGlobals "is_signature" = some (some (.ref f3))) (l3 : K.lookup f3 = some ⟨oc3, od3, .func (PySem.W.fnOf "is_signature" "is_signature" (defArgs sis_signature) (defBody sis_signature) (defScope sis_signature) .none kV3 dc3 pm3 an3 cd3 ct3), sl3⟩) (c3 : PySem.W.codeIn K cd3 "is_signature" = true) (k3 : PySem.W.keepIn K (.ref f3) = true)
    {f4 : Addr} {od4 an4 : Option Addr} {sl4 : Array (Option Value)} {oc4 kV4 dc4 pm4 cd4 ct4 : Value}
    (a4 : PySem.W.nsIn K mainGlobals "check_signature" = some (some (.ref f4))) (l4 : K.lookup f4 = some ⟨oc4, od4, .func (PySem.W.fnOf "check_signature" "check_signature" (defArgs scheck_signature) (defBody scheck_signature) (defScope scheck_signature) .none kV4 dc4 pm4 an4 cd4 ct4), sl4⟩) (c4 : PySem.W.codeIn K cd4 "check_signature" = true) (k4 : PySem.W.keepIn K (.ref f4) = true)
    {f5 : Addr} {od5 an5 : Option Addr} {sl5 : Array (Option Value)} {oc5 kV5 dc5 pm5 cd5 ct5 : Value}
    (a5 : PySem.W.nsIn K mainGlobals "negated" = some (some (.ref f5))) (l5 : K.lookup f5 = some ⟨oc5, od5, .func (PySem.W.fnOf "negated" "negated" (defArgs snegated) (defBody snegated) (defScope snegated) .none kV5 dc5 pm5 an5 cd5 ct5), sl5⟩) (c5 : PySem.W.codeIn K cd5 "negated" = true) (k5 : PySem.W.keepIn K (.ref f5) = true)
    {f6 : Addr} {od6 an6 : Option Addr} {sl6 : Array (Option Value)} {oc6 kV6 dc6 pm6 cd6 ct6 : Value}
    (a6 : PySem.W.nsIn K mainGlobals "_choices" = some (some (.ref f6))) (l6 : K.lookup f6 = some ⟨oc6, od6, .func (PySem.W.fnOf "_choices" "_choices" (defArgs s_choices) (defBody s_choices) (defScope s_choices) .none kV6 dc6 pm6 an6 cd6 ct6), sl6⟩) (c6 : PySem.W.codeIn K cd6 "_choices" = true) (k6 : PySem.W.keepIn K (.ref f6) = true)
    {f7 : Addr} {od7 an7 : Option Addr} {sl7 : Array (Option Value)} {oc7 kV7 dc7 pm7 cd7 ct7 : Value}
    (a7 : PySem.W.nsIn K mainGlobals "_count_with_word" = some (some (.ref f7))) (l7 : K.lookup f7 = some ⟨oc7, od7, .func (PySem.W.fnOf "_count_with_word" "_count_with_word" (defArgs s_count_with_word) (defBody s_count_with_word) (defScope s_count_with_word) .none kV7 dc7 pm7 an7 cd7 ct7), sl7⟩) (c7 : PySem.W.codeIn K cd7 "_count_with_word" = true) (k7 : PySem.W.keepIn K (.ref f7) = true)
    {f8 : Addr} {od8 an8 : Option Addr} {sl8 : Array (Option Value)} {oc8 kV8 dc8 pm8 cd8 ct8 : Value}
    (a8 : PySem.W.nsIn K mainGlobals "_sentence_with_word" = some (some (.ref f8))) (l8 : K.lookup f8 = some ⟨oc8, od8, .func (PySem.W.fnOf "_sentence_with_word" "_sentence_with_word" (defArgs s_sentence_with_word) (defBody s_sentence_with_word) (defScope s_sentence_with_word) .none kV8 dc8 pm8 an8 cd8 ct8), sl8⟩) (c8 : PySem.W.codeIn K cd8 "_sentence_with_word" = true) (k8 : PySem.W.keepIn K (.ref f8) = true)
    {f9 : Addr} {od9 an9 : Option Addr} {sl9 : Array (Option Value)} {oc9 kV9 dc9 pm9 cd9 ct9 : Value}
    (a9 : PySem.W.nsIn K mainGlobals "sentences_in_order" = some (some (.ref f9))) (l9 : K.lookup f9 = some ⟨oc9, od9, .func (PySem.W.fnOf "sentences_in_order" "sentences_in_order" (defArgs ssentences_in_order) (defBody ssentences_in_order) (defScope ssentences_in_order) .none kV9 dc9 pm9 an9 cd9 ct9), sl9⟩) (c9 : PySem.W.codeIn K cd9 "sentences_in_order" = true) (k9 : PySem.W.keepIn K (.ref f9) = true)
    {f10 : Addr} {od10 an10 : Option Addr} {sl10 : Array (Option Value)} {oc10 kV10 dc10 pm10 cd10 ct10 : Value}
    (a10 : PySem.W.nsIn K mainGlobals "is_ascending" = some (some (.ref f10))) (l10 : K.lookup f10 = some ⟨oc10, od10, .func (PySem.W.fnOf "is_ascending" "is_ascending" (defArgs sis_ascending) (defBody sis_ascending) (defScope sis_ascending) .none kV10 dc10 pm10 an10 cd10 ct10), sl10⟩) (c10 : PySem.W.codeIn K cd10 "is_ascending" = true) (k10 : PySem.W.keepIn K (.ref f10) = true)
    {f11 : Addr} {od11 an11 : Option Addr} {sl11 : Array (Option Value)} {oc11 kV11 dc11 pm11 cd11 ct11 : Value}
    (a11 : PySem.W.nsIn K mainGlobals "are_groups" = some (some (.ref f11))) (l11 : K.lookup f11 = some ⟨oc11, od11, .func (PySem.W.fnOf "are_groups" "are_groups" (defArgs sare_groups) (defBody sare_groups) (defScope sare_groups) .none kV11 dc11 pm11 an11 cd11 ct11), sl11⟩) (c11 : PySem.W.codeIn K cd11 "are_groups" = true) (k11 : PySem.W.keepIn K (.ref f11) = true)
    {f12 : Addr} {od12 an12 : Option Addr} {sl12 : Array (Option Value)} {oc12 kV12 dc12 pm12 cd12 ct12 : Value}
    (a12 : PySem.W.nsIn K mainGlobals "_is_group" = some (some (.ref f12))) (l12 : K.lookup f12 = some ⟨oc12, od12, .func (PySem.W.fnOf "_is_group" "_is_group" (defArgs s_is_group) (defBody s_is_group) (defScope s_is_group) .none kV12 dc12 pm12 an12 cd12 ct12), sl12⟩) (c12 : PySem.W.codeIn K cd12 "_is_group" = true) (k12 : PySem.W.keepIn K (.ref f12) = true)
    {f13 : Addr} {od13 an13 : Option Addr} {sl13 : Array (Option Value)} {oc13 kV13 dc13 pm13 cd13 ct13 : Value}
    (a13 : PySem.W.nsIn K mainGlobals "_are_rows" = some (some (.ref f13))) (l13 : K.lookup f13 = some ⟨oc13, od13, .func (PySem.W.fnOf "_are_rows" "_are_rows" (defArgs s_are_rows) (defBody s_are_rows) (defScope s_are_rows) .none kV13 dc13 pm13 an13 cd13 ct13), sl13⟩) (c13 : PySem.W.codeIn K cd13 "_are_rows" = true) (k13 : PySem.W.keepIn K (.ref f13) = true)
    {f14 : Addr} {od14 an14 : Option Addr} {sl14 : Array (Option Value)} {oc14 kV14 dc14 pm14 cd14 ct14 : Value}
    (a14 : PySem.W.nsIn K mainGlobals "_has_one_for_each_verb" = some (some (.ref f14))) (l14 : K.lookup f14 = some ⟨oc14, od14, .func (PySem.W.fnOf "_has_one_for_each_verb" "_has_one_for_each_verb" (defArgs s_has_one_for_each_verb) (defBody s_has_one_for_each_verb) (defScope s_has_one_for_each_verb) .none kV14 dc14 pm14 an14 cd14 ct14), sl14⟩) (c14 : PySem.W.codeIn K cd14 "_has_one_for_each_verb" = true) (k14 : PySem.W.keepIn K (.ref f14) = true)
    {f15 : Addr} {od15 an15 : Option Addr} {sl15 : Array (Option Value)} {oc15 kV15 dc15 pm15 cd15 ct15 : Value}
    (a15 : PySem.W.nsIn K mainGlobals "is_model" = some (some (.ref f15))) (l15 : K.lookup f15 = some ⟨oc15, od15, .func (PySem.W.fnOf "is_model" "is_model" (defArgs sis_model) (defBody sis_model) (defScope sis_model) .none kV15 dc15 pm15 an15 cd15 ct15), sl15⟩) (c15 : PySem.W.codeIn K cd15 "is_model" = true) (k15 : PySem.W.keepIn K (.ref f15) = true)
    {f16 : Addr} {od16 an16 : Option Addr} {sl16 : Array (Option Value)} {oc16 kV16 dc16 pm16 cd16 ct16 : Value}
    (a16 : PySem.W.nsIn K mainGlobals "check_model" = some (some (.ref f16))) (l16 : K.lookup f16 = some ⟨oc16, od16, .func (PySem.W.fnOf "check_model" "check_model" (defArgs scheck_model) (defBody scheck_model) (defScope scheck_model) .none kV16 dc16 pm16 an16 cd16 ct16), sl16⟩) (c16 : PySem.W.codeIn K cd16 "check_model" = true) (k16 : PySem.W.keepIn K (.ref f16) = true)
    {f17 : Addr} {od17 an17 : Option Addr} {sl17 : Array (Option Value)} {oc17 kV17 dc17 pm17 cd17 ct17 : Value}
    (a17 : PySem.W.nsIn K mainGlobals "says_some" = some (some (.ref f17))) (l17 : K.lookup f17 = some ⟨oc17, od17, .func (PySem.W.fnOf "says_some" "says_some" (defArgs ssays_some) (defBody ssays_some) (defScope ssays_some) .none kV17 dc17 pm17 an17 cd17 ct17), sl17⟩) (c17 : PySem.W.codeIn K cd17 "says_some" = true) (k17 : PySem.W.keepIn K (.ref f17) = true)
    {f18 : Addr} {od18 an18 : Option Addr} {sl18 : Array (Option Value)} {oc18 kV18 dc18 pm18 cd18 ct18 : Value}
    (a18 : PySem.W.nsIn K mainGlobals "compares_sizes" = some (some (.ref f18))) (l18 : K.lookup f18 = some ⟨oc18, od18, .func (PySem.W.fnOf "compares_sizes" "compares_sizes" (defArgs scompares_sizes) (defBody scompares_sizes) (defScope scompares_sizes) .none kV18 dc18 pm18 an18 cd18 ct18), sl18⟩) (c18 : PySem.W.codeIn K cd18 "compares_sizes" = true) (k18 : PySem.W.keepIn K (.ref f18) = true)
    {f19 : Addr} {od19 an19 : Option Addr} {sl19 : Array (Option Value)} {oc19 kV19 dc19 pm19 cd19 ct19 : Value}
    (a19 : PySem.W.nsIn K mainGlobals "_deeds" = some (some (.ref f19))) (l19 : K.lookup f19 = some ⟨oc19, od19, .func (PySem.W.fnOf "_deeds" "_deeds" (defArgs s_deeds) (defBody s_deeds) (defScope s_deeds) .none kV19 dc19 pm19 an19 cd19 ct19), sl19⟩) (c19 : PySem.W.codeIn K cd19 "_deeds" = true) (k19 : PySem.W.keepIn K (.ref f19) = true)
    {f20 : Addr} {od20 an20 : Option Addr} {sl20 : Array (Option Value)} {oc20 kV20 dc20 pm20 cd20 ct20 : Value}
    (a20 : PySem.W.nsIn K mainGlobals "is_as_said" = some (some (.ref f20))) (l20 : K.lookup f20 = some ⟨oc20, od20, .func (PySem.W.fnOf "is_as_said" "is_as_said" (defArgs sis_as_said) (defBody sis_as_said) (defScope sis_as_said) .none kV20 dc20 pm20 an20 cd20 ct20), sl20⟩) (c20 : PySem.W.codeIn K cd20 "is_as_said" = true) (k20 : PySem.W.keepIn K (.ref f20) = true)
    {f21 : Addr} {od21 an21 : Option Addr} {sl21 : Array (Option Value)} {oc21 kV21 dc21 pm21 cd21 ct21 : Value}
    (a21 : PySem.W.nsIn K mainGlobals "first_as_said" = some (some (.ref f21))) (l21 : K.lookup f21 = some ⟨oc21, od21, .func (PySem.W.fnOf "first_as_said" "first_as_said" (defArgs sfirst_as_said) (defBody sfirst_as_said) (defScope sfirst_as_said) .none kV21 dc21 pm21 an21 cd21 ct21), sl21⟩) (c21 : PySem.W.codeIn K cd21 "first_as_said" = true) (k21 : PySem.W.keepIn K (.ref f21) = true)
    {f22 : Addr} {od22 an22 : Option Addr} {sl22 : Array (Option Value)} {oc22 kV22 dc22 pm22 cd22 ct22 : Value}
    (a22 : PySem.W.nsIn K mainGlobals "size_of_noun" = some (some (.ref f22))) (l22 : K.lookup f22 = some ⟨oc22, od22, .func (PySem.W.fnOf "size_of_noun" "size_of_noun" (defArgs ssize_of_noun) (defBody ssize_of_noun) (defScope ssize_of_noun) .none kV22 dc22 pm22 an22 cd22 ct22), sl22⟩) (c22 : PySem.W.codeIn K cd22 "size_of_noun" = true) (k22 : PySem.W.keepIn K (.ref f22) = true)
    {f23 : Addr} {od23 an23 : Option Addr} {sl23 : Array (Option Value)} {oc23 kV23 dc23 pm23 cd23 ct23 : Value}
    (a23 : PySem.W.nsIn K mainGlobals "holds_in" = some (some (.ref f23))) (l23 : K.lookup f23 = some ⟨oc23, od23, .func (PySem.W.fnOf "holds_in" "holds_in" (defArgs sholds_in) (defBody sholds_in) (defScope sholds_in) .none kV23 dc23 pm23 an23 cd23 ct23), sl23⟩) (c23 : PySem.W.codeIn K cd23 "holds_in" = true) (k23 : PySem.W.keepIn K (.ref f23) = true)
    {f24 : Addr} {od24 an24 : Option Addr} {sl24 : Array (Option Value)} {oc24 kV24 dc24 pm24 cd24 ct24 : Value}
    (a24 : PySem.W.nsIn K mainGlobals "_check_both" = some (some (.ref f24))) (l24 : K.lookup f24 = some ⟨oc24, od24, .func (PySem.W.fnOf "_check_both" "_check_both" (defArgs s_check_both) (defBody s_check_both) (defScope s_check_both) .none kV24 dc24 pm24 an24 cd24 ct24), sl24⟩) (c24 : PySem.W.codeIn K cd24 "_check_both" = true) (k24 : PySem.W.keepIn K (.ref f24) = true)
    {f25 : Addr} {od25 an25 : Option Addr} {sl25 : Array (Option Value)} {oc25 kV25 dc25 pm25 cd25 ct25 : Value}
    (a25 : PySem.W.nsIn K mainGlobals "_is_telling" = some (some (.ref f25))) (l25 : K.lookup f25 = some ⟨oc25, od25, .func (PySem.W.fnOf "_is_telling" "_is_telling" (defArgs s_is_telling) (defBody s_is_telling) (defScope s_is_telling) .none kV25 dc25 pm25 an25 cd25 ct25), sl25⟩) (c25 : PySem.W.codeIn K cd25 "_is_telling" = true) (k25 : PySem.W.keepIn K (.ref f25) = true)
    {f26 : Addr} {od26 an26 : Option Addr} {sl26 : Array (Option Value)} {oc26 kV26 dc26 pm26 cd26 ct26 : Value}
    (a26 : PySem.W.nsIn K mainGlobals "_first_telling" = some (some (.ref f26))) (l26 : K.lookup f26 = some ⟨oc26, od26, .func (PySem.W.fnOf "_first_telling" "_first_telling" (defArgs s_first_telling) (defBody s_first_telling) (defScope s_first_telling) .none kV26 dc26 pm26 an26 cd26 ct26), sl26⟩) (c26 : PySem.W.codeIn K cd26 "_first_telling" = true) (k26 : PySem.W.keepIn K (.ref f26) = true)
    {f27 : Addr} {od27 an27 : Option Addr} {sl27 : Array (Option Value)} {oc27 kV27 dc27 pm27 cd27 ct27 : Value}
    (a27 : PySem.W.nsIn K mainGlobals "told_sentence" = some (some (.ref f27))) (l27 : K.lookup f27 = some ⟨oc27, od27, .func (PySem.W.fnOf "told_sentence" "told_sentence" (defArgs stold_sentence) (defBody stold_sentence) (defScope stold_sentence) .none kV27 dc27 pm27 an27 cd27 ct27), sl27⟩) (c27 : PySem.W.codeIn K cd27 "told_sentence" = true) (k27 : PySem.W.keepIn K (.ref f27) = true)
    {f28 : Addr} {od28 an28 : Option Addr} {sl28 : Array (Option Value)} {oc28 kV28 dc28 pm28 cd28 ct28 : Value}
    (a28 : PySem.W.nsIn K mainGlobals "agree" = some (some (.ref f28))) (l28 : K.lookup f28 = some ⟨oc28, od28, .func (PySem.W.fnOf "agree" "agree" (defArgs sagree) (defBody sagree) (defScope sagree) .none kV28 dc28 pm28 an28 cd28 ct28), sl28⟩) (c28 : PySem.W.codeIn K cd28 "agree" = true) (k28 : PySem.W.keepIn K (.ref f28) = true)
    {f29 : Addr} {od29 an29 : Option Addr} {sl29 : Array (Option Value)} {oc29 kV29 dc29 pm29 cd29 ct29 : Value}
    (a29 : PySem.W.nsIn K mainGlobals "_moved" = some (some (.ref f29))) (l29 : K.lookup f29 = some ⟨oc29, od29, .func (PySem.W.fnOf "_moved" "_moved" (defArgs s_moved) (defBody s_moved) (defScope s_moved) .none kV29 dc29 pm29 an29 cd29 ct29), sl29⟩) (c29 : PySem.W.codeIn K cd29 "_moved" = true) (k29 : PySem.W.keepIn K (.ref f29) = true)
    {f30 : Addr} {od30 an30 : Option Addr} {sl30 : Array (Option Value)} {oc30 kV30 dc30 pm30 cd30 ct30 : Value}
    (a30 : PySem.W.nsIn K mainGlobals "union" = some (some (.ref f30))) (l30 : K.lookup f30 = some ⟨oc30, od30, .func (PySem.W.fnOf "union" "union" (defArgs sunion) (defBody sunion) (defScope sunion) .none kV30 dc30 pm30 an30 cd30 ct30), sl30⟩) (c30 : PySem.W.codeIn K cd30 "union" = true) (k30 : PySem.W.keepIn K (.ref f30) = true)
    {f31 : Addr} {od31 an31 : Option Addr} {sl31 : Array (Option Value)} {oc31 kV31 dc31 pm31 cd31 ct31 : Value}
    (a31 : PySem.W.nsIn K mainGlobals "_law_stream" = some (some (.ref f31))) (l31 : K.lookup f31 = some ⟨oc31, od31, .func (PySem.W.fnOf "_law_stream" "_law_stream" (defArgs s_law_stream) (defBody s_law_stream) (defScope s_law_stream) .none kV31 dc31 pm31 an31 cd31 ct31), sl31⟩) (c31 : PySem.W.codeIn K cd31 "_law_stream" = true) (k31 : PySem.W.keepIn K (.ref f31) = true)
    {f32 : Addr} {od32 an32 : Option Addr} {sl32 : Array (Option Value)} {oc32 kV32 dc32 pm32 cd32 ct32 : Value}
    (a32 : PySem.W.nsIn K mainGlobals "_law_next" = some (some (.ref f32))) (l32 : K.lookup f32 = some ⟨oc32, od32, .func (PySem.W.fnOf "_law_next" "_law_next" (defArgs s_law_next) (defBody s_law_next) (defScope s_law_next) .none kV32 dc32 pm32 an32 cd32 ct32), sl32⟩) (c32 : PySem.W.codeIn K cd32 "_law_next" = true) (k32 : PySem.W.keepIn K (.ref f32) = true)
    {f33 : Addr} {od33 an33 : Option Addr} {sl33 : Array (Option Value)} {oc33 kV33 dc33 pm33 cd33 ct33 : Value}
    (a33 : PySem.W.nsIn K mainGlobals "_law_noun_words" = some (some (.ref f33))) (l33 : K.lookup f33 = some ⟨oc33, od33, .func (PySem.W.fnOf "_law_noun_words" "_law_noun_words" (defArgs s_law_noun_words) (defBody s_law_noun_words) (defScope s_law_noun_words) .none kV33 dc33 pm33 an33 cd33 ct33), sl33⟩) (c33 : PySem.W.codeIn K cd33 "_law_noun_words" = true) (k33 : PySem.W.keepIn K (.ref f33) = true)
    {f34 : Addr} {od34 an34 : Option Addr} {sl34 : Array (Option Value)} {oc34 kV34 dc34 pm34 cd34 ct34 : Value}
    (a34 : PySem.W.nsIn K mainGlobals "_law_every" = some (some (.ref f34))) (l34 : K.lookup f34 = some ⟨oc34, od34, .func (PySem.W.fnOf "_law_every" "_law_every" (defArgs s_law_every) (defBody s_law_every) (defScope s_law_every) .none kV34 dc34 pm34 an34 cd34 ct34), sl34⟩) (c34 : PySem.W.codeIn K cd34 "_law_every" = true) (k34 : PySem.W.keepIn K (.ref f34) = true)
    {f35 : Addr} {od35 an35 : Option Addr} {sl35 : Array (Option Value)} {oc35 kV35 dc35 pm35 cd35 ct35 : Value}
    (a35 : PySem.W.nsIn K mainGlobals "_law_signature" = some (some (.ref f35))) (l35 : K.lookup f35 = some ⟨oc35, od35, .func (PySem.W.fnOf "_law_signature" "_law_signature" (defArgs s_law_signature) (defBody s_law_signature) (defScope s_law_signature) .none kV35 dc35 pm35 an35 cd35 ct35), sl35⟩) (c35 : PySem.W.codeIn K cd35 "_law_signature" = true) (k35 : PySem.W.keepIn K (.ref f35) = true)
    {f36 : Addr} {od36 an36 : Option Addr} {sl36 : Array (Option Value)} {oc36 kV36 dc36 pm36 cd36 ct36 : Value}
    (a36 : PySem.W.nsIn K mainGlobals "_law_having" = some (some (.ref f36))) (l36 : K.lookup f36 = some ⟨oc36, od36, .func (PySem.W.fnOf "_law_having" "_law_having" (defArgs s_law_having) (defBody s_law_having) (defScope s_law_having) .none kV36 dc36 pm36 an36 cd36 ct36), sl36⟩) (c36 : PySem.W.codeIn K cd36 "_law_having" = true) (k36 : PySem.W.keepIn K (.ref f36) = true)
    {f37 : Addr} {od37 an37 : Option Addr} {sl37 : Array (Option Value)} {oc37 kV37 dc37 pm37 cd37 ct37 : Value}
    (a37 : PySem.W.nsIn K mainGlobals "_law_size" = some (some (.ref f37))) (l37 : K.lookup f37 = some ⟨oc37, od37, .func (PySem.W.fnOf "_law_size" "_law_size" (defArgs s_law_size) (defBody s_law_size) (defScope s_law_size) .none kV37 dc37 pm37 an37 cd37 ct37), sl37⟩) (c37 : PySem.W.codeIn K cd37 "_law_size" = true) (k37 : PySem.W.keepIn K (.ref f37) = true)
    {f38 : Addr} {od38 an38 : Option Addr} {sl38 : Array (Option Value)} {oc38 kV38 dc38 pm38 cd38 ct38 : Value}
    (a38 : PySem.W.nsIn K mainGlobals "_law_seen" = some (some (.ref f38))) (l38 : K.lookup f38 = some ⟨oc38, od38, .func (PySem.W.fnOf "_law_seen" "_law_seen" (defArgs s_law_seen) (defBody s_law_seen) (defScope s_law_seen) .none kV38 dc38 pm38 an38 cd38 ct38), sl38⟩) (c38 : PySem.W.codeIn K cd38 "_law_seen" = true) (k38 : PySem.W.keepIn K (.ref f38) = true)
    {f39 : Addr} {od39 an39 : Option Addr} {sl39 : Array (Option Value)} {oc39 kV39 dc39 pm39 cd39 ct39 : Value}
    (a39 : PySem.W.nsIn K mainGlobals "_law_says" = some (some (.ref f39))) (l39 : K.lookup f39 = some ⟨oc39, od39, .func (PySem.W.fnOf "_law_says" "_law_says" (defArgs s_law_says) (defBody s_law_says) (defScope s_law_says) .none kV39 dc39 pm39 an39 cd39 ct39), sl39⟩) (c39 : PySem.W.codeIn K cd39 "_law_says" = true) (k39 : PySem.W.keepIn K (.ref f39) = true)
    {f40 : Addr} {od40 an40 : Option Addr} {sl40 : Array (Option Value)} {oc40 kV40 dc40 pm40 cd40 ct40 : Value}
    (a40 : PySem.W.nsIn K mainGlobals "_law_holds" = some (some (.ref f40))) (l40 : K.lookup f40 = some ⟨oc40, od40, .func (PySem.W.fnOf "_law_holds" "_law_holds" (defArgs s_law_holds) (defBody s_law_holds) (defScope s_law_holds) .none kV40 dc40 pm40 an40 cd40 ct40), sl40⟩) (c40 : PySem.W.codeIn K cd40 "_law_holds" = true) (k40 : PySem.W.keepIn K (.ref f40) = true)
    {f41 : Addr} {od41 an41 : Option Addr} {sl41 : Array (Option Value)} {oc41 kV41 dc41 pm41 cd41 ct41 : Value}
    (a41 : PySem.W.nsIn K mainGlobals "_law_some" = some (some (.ref f41))) (l41 : K.lookup f41 = some ⟨oc41, od41, .func (PySem.W.fnOf "_law_some" "_law_some" (defArgs s_law_some) (defBody s_law_some) (defScope s_law_some) .none kV41 dc41 pm41 an41 cd41 ct41), sl41⟩) (c41 : PySem.W.codeIn K cd41 "_law_some" = true) (k41 : PySem.W.keepIn K (.ref f41) = true)
    {f42 : Addr} {od42 an42 : Option Addr} {sl42 : Array (Option Value)} {oc42 kV42 dc42 pm42 cd42 ct42 : Value}
    (a42 : PySem.W.nsIn K mainGlobals "_law_model" = some (some (.ref f42))) (l42 : K.lookup f42 = some ⟨oc42, od42, .func (PySem.W.fnOf "_law_model" "_law_model" (defArgs s_law_model) (defBody s_law_model) (defScope s_law_model) .none kV42 dc42 pm42 an42 cd42 ct42), sl42⟩) (c42 : PySem.W.codeIn K cd42 "_law_model" = true) (k42 : PySem.W.keepIn K (.ref f42) = true)
    {f43 : Addr} {od43 an43 : Option Addr} {sl43 : Array (Option Value)} {oc43 kV43 dc43 pm43 cd43 ct43 : Value}
    (a43 : PySem.W.nsIn K mainGlobals "_law_exchanged" = some (some (.ref f43))) (l43 : K.lookup f43 = some ⟨oc43, od43, .func (PySem.W.fnOf "_law_exchanged" "_law_exchanged" (defArgs s_law_exchanged) (defBody s_law_exchanged) (defScope s_law_exchanged) .none kV43 dc43 pm43 an43 cd43 ct43), sl43⟩) (c43 : PySem.W.codeIn K cd43 "_law_exchanged" = true) (k43 : PySem.W.keepIn K (.ref f43) = true)
    {f44 : Addr} {od44 an44 : Option Addr} {sl44 : Array (Option Value)} {oc44 kV44 dc44 pm44 cd44 ct44 : Value}
    (a44 : PySem.W.nsIn K mainGlobals "_law_parted" = some (some (.ref f44))) (l44 : K.lookup f44 = some ⟨oc44, od44, .func (PySem.W.fnOf "_law_parted" "_law_parted" (defArgs s_law_parted) (defBody s_law_parted) (defScope s_law_parted) .none kV44 dc44 pm44 an44 cd44 ct44), sl44⟩) (c44 : PySem.W.codeIn K cd44 "_law_parted" = true) (k44 : PySem.W.keepIn K (.ref f44) = true)
    {f45 : Addr} {od45 an45 : Option Addr} {sl45 : Array (Option Value)} {oc45 kV45 dc45 pm45 cd45 ct45 : Value}
    (a45 : PySem.W.nsIn K mainGlobals "law" = some (some (.ref f45))) (l45 : K.lookup f45 = some ⟨oc45, od45, .func (PySem.W.fnOf "law" "law" (defArgs slaw) (defBody slaw) (defScope slaw) .none kV45 dc45 pm45 an45 cd45 ct45), sl45⟩) (c45 : PySem.W.codeIn K cd45 "law" = true) (k45 : PySem.W.keepIn K (.ref f45) = true)
    (z_abs : PySem.W.nsIn K mainGlobals "abs" = some none)
    (z_all : PySem.W.nsIn K mainGlobals "all" = some none)
    (z_any : PySem.W.nsIn K mainGlobals "any" = some none)
    (z_bool : PySem.W.nsIn K mainGlobals "bool" = some none)
    (z_int : PySem.W.nsIn K mainGlobals "int" = some none)
    (z_isinstance : PySem.W.nsIn K mainGlobals "isinstance" = some none)
    (z_len : PySem.W.nsIn K mainGlobals "len" = some none)
    (z_list : PySem.W.nsIn K mainGlobals "list" = some none)
    (z_range : PySem.W.nsIn K mainGlobals "range" = some none)
    (z_reversed : PySem.W.nsIn K mainGlobals "reversed" = some none)
    (z_sorted : PySem.W.nsIn K mainGlobals "sorted" = some none)
    (z_sum : PySem.W.nsIn K mainGlobals "sum" = some none)
    (z_tuple : PySem.W.nsIn K mainGlobals "tuple" = some none)
    (z_zip : PySem.W.nsIn K mainGlobals "zip" = some none)
    {k_MOST_NOUNS : Tok} (m_MOST_NOUNS : PySem.W.nsIn K mainGlobals "MOST_NOUNS" = some (some (.int 4 k_MOST_NOUNS)))
    {k_MOST_VERBS : Tok} (m_MOST_VERBS : PySem.W.nsIn K mainGlobals "MOST_VERBS" = some (some (.int 2 k_MOST_VERBS)))
    {k_MOST_GROUPS : Tok} (m_MOST_GROUPS : PySem.W.nsIn K mainGlobals "MOST_GROUPS" = some (some (.int 40 k_MOST_GROUPS)))
    {k_MOST_OF_A_GROUP : Tok} (m_MOST_OF_A_GROUP : PySem.W.nsIn K mainGlobals "MOST_OF_A_GROUP" = some (some (.int 1000 k_MOST_OF_A_GROUP)))
    {a_QUANTIFIERS : Addr} {nt_QUANTIFIERS : Nat} {st_QUANTIFIERS : Array (Option Value)} {q0_QUANTIFIERS q1_QUANTIFIERS : Tok} (m_QUANTIFIERS : PySem.W.nsIn K mainGlobals "QUANTIFIERS" = some (some (.ref a_QUANTIFIERS))) (o_QUANTIFIERS : K.lookup a_QUANTIFIERS = some ⟨.type "tuple", none, .seq #[.str "all" q0_QUANTIFIERS, .str "some" q1_QUANTIFIERS] nt_QUANTIFIERS, st_QUANTIFIERS⟩)
    {a_WORDS : Addr} {dt_WORDS : Option Addr} {nt_WORDS : Nat} {st_WORDS : Array (Option Value)} {q0_WORDS q1_WORDS q2_WORDS q3_WORDS q4_WORDS q5_WORDS q6_WORDS q7_WORDS : Tok} (m_WORDS : PySem.W.nsIn K mainGlobals "WORDS" = some (some (.ref a_WORDS))) (o_WORDS : K.lookup a_WORDS = some ⟨.type "tuple", dt_WORDS, .seq #[.str "all" q0_WORDS, .str "some not" q1_WORDS, .str "no" q2_WORDS, .str "some" q3_WORDS, .str "as many" q4_WORDS, .str "fewer" q5_WORDS, .str "verb" q6_WORDS, .str "self" q7_WORDS] nt_WORDS, st_WORDS⟩)
    {a_TRUE_FIRST : Addr} {nt_TRUE_FIRST : Nat} {st_TRUE_FIRST : Array (Option Value)} (m_TRUE_FIRST : PySem.W.nsIn K mainGlobals "TRUE_FIRST" = some (some (.ref a_TRUE_FIRST))) (o_TRUE_FIRST : K.lookup a_TRUE_FIRST = some ⟨.type "tuple", none, .seq #[.bool true, .bool false] nt_TRUE_FIRST, st_TRUE_FIRST⟩)
    {a_OTHER_QUANTIFIER : Addr} {es_OTHER_QUANTIFIER : Array DictEntry} {nt_OTHER_QUANTIFIER : Nat} {q0_OTHER_QUANTIFIER q1_OTHER_QUANTIFIER : Tok} (m_OTHER_QUANTIFIER : PySem.W.nsIn K mainGlobals "OTHER_QUANTIFIER" = some (some (.ref a_OTHER_QUANTIFIER))) (o_OTHER_QUANTIFIER : K.lookup a_OTHER_QUANTIFIER = some { cls := .type "dict", data := .dict es_OTHER_QUANTIFIER nt_OTHER_QUANTIFIER }) (kl_OTHER_QUANTIFIER : PySem.W.KeysLit w.params es_OTHER_QUANTIFIER.toList)
    (ns0_OTHER_QUANTIFIER : PySem.W.nsIn K a_OTHER_QUANTIFIER "all" = some (some (.str "some" q0_OTHER_QUANTIFIER)))
    (ns1_OTHER_QUANTIFIER : PySem.W.nsIn K a_OTHER_QUANTIFIER "some" = some (some (.str "all" q1_OTHER_QUANTIFIER)))
    {a_OPPOSITES : Addr} {es_OPPOSITES : Array DictEntry} {nt_OPPOSITES : Nat} {q0_OPPOSITES q1_OPPOSITES q2_OPPOSITES q3_OPPOSITES q4_OPPOSITES q5_OPPOSITES : Tok} (m_OPPOSITES : PySem.W.nsIn K mainGlobals "OPPOSITES" = some (some (.ref a_OPPOSITES))) (o_OPPOSITES : K.lookup a_OPPOSITES = some { cls := .type "dict", data := .dict es_OPPOSITES nt_OPPOSITES }) (kl_OPPOSITES : PySem.W.KeysLit w.params es_OPPOSITES.toList)
    (ns0_OPPOSITES : PySem.W.nsIn K a_OPPOSITES "all" = some (some (.str "some not" q0_OPPOSITES)))
    (ns1_OPPOSITES : PySem.W.nsIn K a_OPPOSITES "some not" = some (some (.str "all" q1_OPPOSITES)))
    (ns2_OPPOSITES : PySem.W.nsIn K a_OPPOSITES "no" = some (some (.str "some" q2_OPPOSITES)))
    (ns3_OPPOSITES : PySem.W.nsIn K a_OPPOSITES "some" = some (some (.str "no" q3_OPPOSITES)))
    (ns4_OPPOSITES : PySem.W.nsIn K a_OPPOSITES "as many" = some (some (.str "fewer" q4_OPPOSITES)))
    (ns5_OPPOSITES : PySem.W.nsIn K a_OPPOSITES "fewer" = some (some (.str "as many" q5_OPPOSITES)))
    (nt : GXX.noTab K = true)
    (r_is_ascending : ((PyProof.Rows.recsOf q).any fun e => e.name == "is_ascending") = true)
    (r_are_groups : ((PyProof.Rows.recsOf q).any fun e => e.name == "are_groups") = true)
    (r__is_group : ((PyProof.Rows.recsOf q).any fun e => e.name == "_is_group") = true)
    (r__are_rows : ((PyProof.Rows.recsOf q).any fun e => e.name == "_are_rows") = true)
    (r_is_model : ((PyProof.Rows.recsOf q).any fun e => e.name == "is_model") = true)
    (r_is_as_said : ((PyProof.Rows.recsOf q).any fun e => e.name == "is_as_said") = true)
    (r_size_of_noun : ((PyProof.Rows.recsOf q).any fun e => e.name == "size_of_noun") = true)
    : LamX.LawAtS l w K CX0 12 63 "script" mg fa h := by
  have e := hfa.symm.trans (PySem.W.mg_of X G a45)
  cases e
  have F1 := fun_mk (st := sis_integer) l1 c1 k1
  have F2 := fun_mk (st := sis_noun) l2 c2 k2
  have F3 := fun_mk (st := sis_signature) l3 c3 k3
  have F4 := fun_mk (st := scheck_signature) l4 c4 k4
  have F5 := fun_mk (st := snegated) l5 c5 k5
  have F6 := fun_mk (st := s_choices) l6 c6 k6
  have F7 := fun_mk (st := s_count_with_word) l7 c7 k7
  have F8 := fun_mk (st := s_sentence_with_word) l8 c8 k8
  have F9 := fun_mk (st := ssentences_in_order) l9 c9 k9
  have F10 := fun_mk (st := sis_ascending) l10 c10 k10
  have F11 := fun_mk (st := sare_groups) l11 c11 k11
  have F12 := fun_mk (st := s_is_group) l12 c12 k12
  have F13 := fun_mk (st := s_are_rows) l13 c13 k13
  have F14 := fun_mk (st := s_has_one_for_each_verb) l14 c14 k14
  have F15 := fun_mk (st := sis_model) l15 c15 k15
  have F16 := fun_mk (st := scheck_model) l16 c16 k16
  have F17 := fun_mk (st := ssays_some) l17 c17 k17
  have F18 := fun_mk (st := scompares_sizes) l18 c18 k18
  have F19 := fun_mk (st := s_deeds) l19 c19 k19
  have F20 := fun_mk (st := sis_as_said) l20 c20 k20
  have F21 := fun_mk (st := sfirst_as_said) l21 c21 k21
  have F22 := fun_mk (st := ssize_of_noun) l22 c22 k22
  have F23 := fun_mk (st := sholds_in) l23 c23 k23
  have F24 := fun_mk (st := s_check_both) l24 c24 k24
  have F25 := fun_mk (st := s_is_telling) l25 c25 k25
  have F26 := fun_mk (st := s_first_telling) l26 c26 k26
  have F27 := fun_mk (st := stold_sentence) l27 c27 k27
  have F28 := fun_mk (st := sagree) l28 c28 k28
  have F29 := fun_mk (st := s_moved) l29 c29 k29
  have F30 := fun_mk (st := sunion) l30 c30 k30
  have F31 := fun_mk (st := s_law_stream) l31 c31 k31
  have F32 := fun_mk (st := s_law_next) l32 c32 k32
  have F33 := fun_mk (st := s_law_noun_words) l33 c33 k33
  have F34 := fun_mk (st := s_law_every) l34 c34 k34
  have F35 := fun_mk (st := s_law_signature) l35 c35 k35
  have F36 := fun_mk (st := s_law_having) l36 c36 k36
  have F37 := fun_mk (st := s_law_size) l37 c37 k37
  have F38 := fun_mk (st := s_law_seen) l38 c38 k38
  have F39 := fun_mk (st := s_law_says) l39 c39 k39
  have F40 := fun_mk (st := s_law_holds) l40 c40 k40
  have F41 := fun_mk (st := s_law_some) l41 c41 k41
  have F42 := fun_mk (st := s_law_model) l42 c42 k42
  have F43 := fun_mk (st := s_law_exchanged) l43 c43 k43
  have F44 := fun_mk (st := s_law_parted) l44 c44 k44
  have F45 := fun_mk (st := slaw) l45 c45 k45
  have b1 := F1.binds (ps := ["value", "least", "most"]) fun _ _ _ _ _ _ us hl => match us, hl with | [_, _, _], _ => rfl
  have b2 := F2.binds (ps := ["signature", "value"]) fun _ _ _ _ _ _ us hl => match us, hl with | [_, _], _ => rfl
  have b3 := F3.binds (ps := ["value"]) fun _ _ _ _ _ _ us hl => match us, hl with | [_], _ => rfl
  have b4 := F4.binds (ps := ["signature"]) fun _ _ _ _ _ _ us hl => match us, hl with | [_], _ => rfl
  have b5 := F5.binds (ps := ["sentence"]) fun _ _ _ _ _ _ us hl => match us, hl with | [_], _ => rfl
  have b6 := F6.binds (ps := ["signature", "word"]) fun _ _ _ _ _ _ us hl => match us, hl with | [_, _], _ => rfl
  have b7 := F7.binds (ps := ["signature", "word"]) fun _ _ _ _ _ _ us hl => match us, hl with | [_, _], _ => rfl
  have b8 := F8.binds (ps := ["signature", "word", "index"]) fun _ _ _ _ _ _ us hl => match us, hl with | [_, _, _], _ => rfl
  have b9 := F9.binds (ps := ["signature"]) fun _ _ _ _ _ _ us hl => match us, hl with | [_], _ => rfl
  have b10 := F10.binds (ps := ["value"]) fun _ _ _ _ _ _ us hl => match us, hl with | [_], _ => rfl
  have b11 := F11.binds (ps := ["many", "value"]) fun _ _ _ _ _ _ us hl => match us, hl with | [_, _], _ => rfl
  have b12 := F12.binds (ps := ["signature", "value"]) fun _ _ _ _ _ _ us hl => match us, hl with | [_, _], _ => rfl
  have b13 := F13.binds (ps := ["many", "value"]) fun _ _ _ _ _ _ us hl => match us, hl with | [_, _], _ => rfl
  have b14 := F14.binds (ps := ["signature", "value"]) fun _ _ _ _ _ _ us hl => match us, hl with | [_, _], _ => rfl
  have b15 := F15.binds (ps := ["signature", "value"]) fun _ _ _ _ _ _ us hl => match us, hl with | [_, _], _ => rfl
  have b16 := F16.binds (ps := ["signature", "model", "name"]) fun _ _ _ _ _ _ us hl => match us, hl with | [_, _, _], _ => rfl
  have b17 := F17.binds (ps := ["sentence"]) fun _ _ _ _ _ _ us hl => match us, hl with | [_], _ => rfl
  have b18 := F18.binds (ps := ["sentence"]) fun _ _ _ _ _ _ us hl => match us, hl with | [_], _ => rfl
  have b19 := F19.binds (ps := ["model", "group", "v", "by", "y"]) fun _ _ _ _ _ _ us hl => match us, hl with | [_, _, _, _, _], _ => rfl
  have b20 := F20.binds (ps := ["model", "sentence", "group"]) fun _ _ _ _ _ _ us hl => match us, hl with | [_, _, _], _ => rfl
  have b21 := F21.binds (ps := ["model", "sentence"]) fun _ _ _ _ _ _ us hl => match us, hl with | [_, _], _ => rfl
  have b22 := F22.binds (ps := ["model", "noun"]) fun _ _ _ _ _ _ us hl => match us, hl with | [_, _], _ => rfl
  have b23 := F23.binds (ps := ["model", "sentence"]) fun _ _ _ _ _ _ us hl => match us, hl with | [_, _], _ => rfl
  have b24 := F24.binds (ps := ["signature", "first", "second"]) fun _ _ _ _ _ _ us hl => match us, hl with | [_, _, _], _ => rfl
  have b25 := F25.binds (ps := ["first", "second", "sentence"]) fun _ _ _ _ _ _ us hl => match us, hl with | [_, _, _], _ => rfl
  have b26 := F26.binds (ps := ["first", "second", "sentences"]) fun _ _ _ _ _ _ us hl => match us, hl with | [_, _, _], _ => rfl
  have b27 := F27.binds (ps := ["signature", "first", "second"]) fun _ _ _ _ _ _ us hl => match us, hl with | [_, _, _], _ => rfl
  have b28 := F28.binds (ps := ["signature", "first", "second"]) fun _ _ _ _ _ _ us hl => match us, hl with | [_, _, _], _ => rfl
  have b29 := F29.binds (ps := ["row", "many"]) fun _ _ _ _ _ _ us hl => match us, hl with | [_, _], _ => rfl
  have b30 := F30.binds (ps := ["signature", "first", "second"]) fun _ _ _ _ _ _ us hl => match us, hl with | [_, _, _], _ => rfl
  have b31 := F31.binds (ps := ["script"]) fun _ _ _ _ _ _ us hl => match us, hl with | [_], _ => rfl
  have b32 := F32.binds (ps := ["stream", "many"]) fun _ _ _ _ _ _ us hl => match us, hl with | [_, _], _ => rfl
  have b33 := F33.binds (ps := []) fun _ _ _ _ _ _ us hl => match us, hl with | [], _ => rfl
  have b34 := F34.binds (ps := ["signature"]) fun _ _ _ _ _ _ us hl => match us, hl with | [_], _ => rfl
  have b35 := F35.binds (ps := ["stream"]) fun _ _ _ _ _ _ us hl => match us, hl with | [_], _ => rfl
  have b36 := F36.binds (ps := ["model", "noun"]) fun _ _ _ _ _ _ us hl => match us, hl with | [_, _], _ => rfl
  have b37 := F37.binds (ps := ["model", "noun"]) fun _ _ _ _ _ _ us hl => match us, hl with | [_, _], _ => rfl
  have b38 := F38.binds (ps := ["model", "group", "verb", "by", "noun"]) fun _ _ _ _ _ _ us hl => match us, hl with | [_, _, _, _, _], _ => rfl
  have b39 := F39.binds (ps := ["model", "sentence", "group"]) fun _ _ _ _ _ _ us hl => match us, hl with | [_, _, _], _ => rfl
  have b40 := F40.binds (ps := ["model", "sentence"]) fun _ _ _ _ _ _ us hl => match us, hl with | [_, _], _ => rfl
  have b41 := F41.binds (ps := ["stream", "many"]) fun _ _ _ _ _ _ us hl => match us, hl with | [_, _], _ => rfl
  have b42 := F42.binds (ps := ["stream", "signature", "most"]) fun _ _ _ _ _ _ us hl => match us, hl with | [_, _, _], _ => rfl
  have b43 := F43.binds (ps := ["model", "order"]) fun _ _ _ _ _ _ us hl => match us, hl with | [_, _], _ => rfl
  have b44 := F44.binds (ps := ["model", "at"]) fun _ _ _ _ _ _ us hl => match us, hl with | [_, _], _ => rfl
  obtain ⟨cc_is_ascending, pp_is_ascending, ec_is_ascending, et_is_ascending, en_is_ascending, ed_is_ascending⟩ := GXX.tab_one DT X nt r_is_ascending (PySem.W.mg_of X G a10) l10 rfl
  have ec_is_ascending : cd10 = .ref cc_is_ascending := ec_is_ascending
  subst ec_is_ascending
  have FC_is_ascending : GXX.FunC K "is_ascending" "is_ascending" sis_ascending f10 _ cc_is_ascending := ⟨_, _, _, _, _, _, _, _, rfl, l10, c10⟩
  obtain ⟨cc_are_groups, pp_are_groups, ec_are_groups, et_are_groups, en_are_groups, ed_are_groups⟩ := GXX.tab_one DT X nt r_are_groups (PySem.W.mg_of X G a11) l11 rfl
  have ec_are_groups : cd11 = .ref cc_are_groups := ec_are_groups
  subst ec_are_groups
  have FC_are_groups : GXX.FunC K "are_groups" "are_groups" sare_groups f11 _ cc_are_groups := ⟨_, _, _, _, _, _, _, _, rfl, l11, c11⟩
  obtain ⟨cc__is_group, pp__is_group, ec__is_group, et__is_group, en__is_group, ed__is_group⟩ := GXX.tab_one DT X nt r__is_group (PySem.W.mg_of X G a12) l12 rfl
  have ec__is_group : cd12 = .ref cc__is_group := ec__is_group
  subst ec__is_group
  have FC__is_group : GXX.FunC K "_is_group" "_is_group" s_is_group f12 _ cc__is_group := ⟨_, _, _, _, _, _, _, _, rfl, l12, c12⟩
  obtain ⟨cc__are_rows, pp__are_rows, ec__are_rows, et__are_rows, en__are_rows, ed__are_rows⟩ := GXX.tab_one DT X nt r__are_rows (PySem.W.mg_of X G a13) l13 rfl
  have ec__are_rows : cd13 = .ref cc__are_rows := ec__are_rows
  subst ec__are_rows
  have FC__are_rows : GXX.FunC K "_are_rows" "_are_rows" s_are_rows f13 _ cc__are_rows := ⟨_, _, _, _, _, _, _, _, rfl, l13, c13⟩
  obtain ⟨cc_is_model, pp_is_model, ec_is_model, et_is_model, en_is_model, ed_is_model⟩ := GXX.tab_one DT X nt r_is_model (PySem.W.mg_of X G a15) l15 rfl
  have ec_is_model : cd15 = .ref cc_is_model := ec_is_model
  subst ec_is_model
  have FC_is_model : GXX.FunC K "is_model" "is_model" sis_model f15 _ cc_is_model := ⟨_, _, _, _, _, _, _, _, rfl, l15, c15⟩
  obtain ⟨cc_is_as_said, pp_is_as_said, ec_is_as_said, et_is_as_said, en_is_as_said, ed_is_as_said⟩ := GXX.tab_one DT X nt r_is_as_said (PySem.W.mg_of X G a20) l20 rfl
  have ec_is_as_said : cd20 = .ref cc_is_as_said := ec_is_as_said
  subst ec_is_as_said
  have FC_is_as_said : GXX.FunC K "is_as_said" "is_as_said" sis_as_said f20 _ cc_is_as_said := ⟨_, _, _, _, _, _, _, _, rfl, l20, c20⟩
  obtain ⟨cc_size_of_noun, pp_size_of_noun, ec_size_of_noun, et_size_of_noun, en_size_of_noun, ed_size_of_noun⟩ := GXX.tab_one DT X nt r_size_of_noun (PySem.W.mg_of X G a22) l22 rfl
  have ec_size_of_noun : cd22 = .ref cc_size_of_noun := ec_size_of_noun
  subst ec_size_of_noun
  have FC_size_of_noun : GXX.FunC K "size_of_noun" "size_of_noun" ssize_of_noun f22 _ cc_size_of_noun := ⟨_, _, _, _, _, _, _, _, rfl, l22, c22⟩
  let T : Txt (⟨K, [pp_is_ascending, pp_are_groups, pp__is_group, pp__are_rows, pp_is_model, pp_is_as_said, pp_size_of_noun], fun _ => none⟩ : En) w mg := ⟨f1,
    _,
    F1,
    PySem.W.mg_of X G a1,
    b1,
    f2,
    _,
    F2,
    PySem.W.mg_of X G a2,
    b2,
    f3,
    _,
    F3,
    PySem.W.mg_of X G a3,
    b3,
    f4,
    _,
    F4,
    PySem.W.mg_of X G a4,
    b4,
    f5,
    _,
    F5,
    PySem.W.mg_of X G a5,
    b5,
    f6,
    _,
    F6,
    PySem.W.mg_of X G a6,
    b6,
    f7,
    _,
    F7,
    PySem.W.mg_of X G a7,
    b7,
    f8,
    _,
    F8,
    PySem.W.mg_of X G a8,
    b8,
    f9,
    _,
    F9,
    PySem.W.mg_of X G a9,
    b9,
    f10,
    _,
    F10,
    PySem.W.mg_of X G a10,
    b10,
    f11,
    _,
    F11,
    PySem.W.mg_of X G a11,
    b11,
    f12,
    _,
    F12,
    PySem.W.mg_of X G a12,
    b12,
    f13,
    _,
    F13,
    PySem.W.mg_of X G a13,
    b13,
    f14,
    _,
    F14,
    PySem.W.mg_of X G a14,
    b14,
    f15,
    _,
    F15,
    PySem.W.mg_of X G a15,
    b15,
    f16,
    _,
    F16,
    PySem.W.mg_of X G a16,
    b16,
    f17,
    _,
    F17,
    PySem.W.mg_of X G a17,
    b17,
    f18,
    _,
    F18,
    PySem.W.mg_of X G a18,
    b18,
    f19,
    _,
    F19,
    PySem.W.mg_of X G a19,
    b19,
    f20,
    _,
    F20,
    PySem.W.mg_of X G a20,
    b20,
    f21,
    _,
    F21,
    PySem.W.mg_of X G a21,
    b21,
    f22,
    _,
    F22,
    PySem.W.mg_of X G a22,
    b22,
    f23,
    _,
    F23,
    PySem.W.mg_of X G a23,
    b23,
    f24,
    _,
    F24,
    PySem.W.mg_of X G a24,
    b24,
    f25,
    _,
    F25,
    PySem.W.mg_of X G a25,
    b25,
    f26,
    _,
    F26,
    PySem.W.mg_of X G a26,
    b26,
    f27,
    _,
    F27,
    PySem.W.mg_of X G a27,
    b27,
    f28,
    _,
    F28,
    PySem.W.mg_of X G a28,
    b28,
    f29,
    _,
    F29,
    PySem.W.mg_of X G a29,
    b29,
    f30,
    _,
    F30,
    PySem.W.mg_of X G a30,
    b30,
    f31,
    _,
    F31,
    PySem.W.mg_of X G a31,
    b31,
    f32,
    _,
    F32,
    PySem.W.mg_of X G a32,
    b32,
    f33,
    _,
    F33,
    PySem.W.mg_of X G a33,
    b33,
    f34,
    _,
    F34,
    PySem.W.mg_of X G a34,
    b34,
    f35,
    _,
    F35,
    PySem.W.mg_of X G a35,
    b35,
    f36,
    _,
    F36,
    PySem.W.mg_of X G a36,
    b36,
    f37,
    _,
    F37,
    PySem.W.mg_of X G a37,
    b37,
    f38,
    _,
    F38,
    PySem.W.mg_of X G a38,
    b38,
    f39,
    _,
    F39,
    PySem.W.mg_of X G a39,
    b39,
    f40,
    _,
    F40,
    PySem.W.mg_of X G a40,
    b40,
    f41,
    _,
    F41,
    PySem.W.mg_of X G a41,
    b41,
    f42,
    _,
    F42,
    PySem.W.mg_of X G a42,
    b42,
    f43,
    _,
    F43,
    PySem.W.mg_of X G a43,
    b43,
    f44,
    _,
    F44,
    PySem.W.mg_of X G a44,
    b44,
    cc_is_ascending,
    pp_is_ascending,
    FC_is_ascending,
    List.mem_cons_self,
    cc_are_groups,
    pp_are_groups,
    FC_are_groups,
    List.mem_cons_of_mem _ (List.mem_cons_self),
    cc__is_group,
    pp__is_group,
    FC__is_group,
    List.mem_cons_of_mem _ (List.mem_cons_of_mem _ (List.mem_cons_self)),
    cc__are_rows,
    pp__are_rows,
    FC__are_rows,
    List.mem_cons_of_mem _ (List.mem_cons_of_mem _ (List.mem_cons_of_mem _ (List.mem_cons_self))),
    cc_is_model,
    pp_is_model,
    FC_is_model,
    List.mem_cons_of_mem _ (List.mem_cons_of_mem _ (List.mem_cons_of_mem _ (List.mem_cons_of_mem _ (List.mem_cons_self)))),
    cc_is_as_said,
    pp_is_as_said,
    FC_is_as_said,
    List.mem_cons_of_mem _ (List.mem_cons_of_mem _ (List.mem_cons_of_mem _ (List.mem_cons_of_mem _ (List.mem_cons_of_mem _ (List.mem_cons_self))))),
    cc_size_of_noun,
    pp_size_of_noun,
    FC_size_of_noun,
    List.mem_cons_of_mem _ (List.mem_cons_of_mem _ (List.mem_cons_of_mem _ (List.mem_cons_of_mem _ (List.mem_cons_of_mem _ (List.mem_cons_of_mem _ (List.mem_cons_self)))))),
    PySem.W.mg_none_of X G z_abs,
    PySem.W.mg_none_of X G z_all,
    PySem.W.mg_none_of X G z_any,
    PySem.W.mg_none_of X G z_bool,
    PySem.W.mg_none_of X G z_int,
    PySem.W.mg_none_of X G z_isinstance,
    PySem.W.mg_none_of X G z_len,
    PySem.W.mg_none_of X G z_list,
    PySem.W.mg_none_of X G z_range,
    PySem.W.mg_none_of X G z_reversed,
    PySem.W.mg_none_of X G z_sorted,
    PySem.W.mg_none_of X G z_sum,
    PySem.W.mg_none_of X G z_tuple,
    PySem.W.mg_none_of X G z_zip,
    k_MOST_NOUNS,
    PySem.W.mg_of X G m_MOST_NOUNS,
    k_MOST_VERBS,
    PySem.W.mg_of X G m_MOST_VERBS,
    k_MOST_GROUPS,
    PySem.W.mg_of X G m_MOST_GROUPS,
    k_MOST_OF_A_GROUP,
    PySem.W.mg_of X G m_MOST_OF_A_GROUP,
    a_QUANTIFIERS,
    PySem.W.mg_of X G m_QUANTIFIERS,
    fun M H => .tup (xs := [.str (txt 0), .str (txt 1)]) (.inr (.inr ⟨_, _, _, o_QUANTIFIERS, rfl, rfl, by show 2 ≤ sizeLine; decide, .cons ⟨_, rfl⟩ (.cons ⟨_, rfl⟩ (.nil))⟩)) (.cons (.str (n := 0) (by decide)) (.cons (.str (n := 1) (by decide)) (.nil))),
    a_WORDS,
    PySem.W.mg_of X G m_WORDS,
    fun M H => .tup (xs := [.str (txt 0), .str (txt 2), .str (txt 3), .str (txt 1), .str (txt 4), .str (txt 5), .str (txt 6), .str (txt 7)]) (.inr (.inr ⟨_, _, _, o_WORDS, rfl, rfl, by show 8 ≤ sizeLine; decide, .cons ⟨_, rfl⟩ (.cons ⟨_, rfl⟩ (.cons ⟨_, rfl⟩ (.cons ⟨_, rfl⟩ (.cons ⟨_, rfl⟩ (.cons ⟨_, rfl⟩ (.cons ⟨_, rfl⟩ (.cons ⟨_, rfl⟩ (.nil))))))))⟩)) (.cons (.str (n := 0) (by decide)) (.cons (.str (n := 2) (by decide)) (.cons (.str (n := 3) (by decide)) (.cons (.str (n := 1) (by decide)) (.cons (.str (n := 4) (by decide)) (.cons (.str (n := 5) (by decide)) (.cons (.str (n := 6) (by decide)) (.cons (.str (n := 7) (by decide)) (.nil))))))))),
    a_TRUE_FIRST,
    PySem.W.mg_of X G m_TRUE_FIRST,
    fun M H => .tup (xs := [.bl true, .bl false]) (.inr (.inr ⟨_, _, _, o_TRUE_FIRST, rfl, rfl, by show 2 ≤ sizeLine; decide, .cons rfl (.cons rfl (.nil))⟩)) (.cons (.bl _) (.cons (.bl _) (.nil))),
    fun M H => .ft (xs := [.str (txt 0), .str (txt 1)]) (.inr ⟨_, _, _, o_QUANTIFIERS, rfl, rfl, rfl, by show 2 ≤ sizeLine; decide, .cons ⟨_, rfl⟩ (.cons ⟨_, rfl⟩ (.nil))⟩) (.cons (.str (n := 0) (by decide)) (.cons (.str (n := 1) (by decide)) (.nil))),
    fun M H => .ft (xs := [.bl true, .bl false]) (.inr ⟨_, _, _, o_TRUE_FIRST, rfl, rfl, rfl, by show 2 ≤ sizeLine; decide, .cons rfl (.cons rfl (.nil))⟩) (.cons (.bl _) (.cons (.bl _) (.nil))),
    a_OTHER_QUANTIFIER,
    PySem.W.mg_of X G m_OTHER_QUANTIFIER,
    (List.forall_mem_cons.mpr ⟨⟨.str (txt 1), ⟨_, _, _, o_OTHER_QUANTIFIER, kl_OTHER_QUANTIFIER, ns0_OTHER_QUANTIFIER, ⟨_, rfl⟩⟩, fun _ _ => .str (n := 1) (by decide)⟩, (List.forall_mem_cons.mpr ⟨⟨.str (txt 0), ⟨_, _, _, o_OTHER_QUANTIFIER, kl_OTHER_QUANTIFIER, ns1_OTHER_QUANTIFIER, ⟨_, rfl⟩⟩, fun _ _ => .str (n := 0) (by decide)⟩, (fun _ z => nomatch z)⟩)⟩),
    a_OPPOSITES,
    PySem.W.mg_of X G m_OPPOSITES,
    (List.forall_mem_cons.mpr ⟨⟨.str (txt 2), ⟨_, _, _, o_OPPOSITES, kl_OPPOSITES, ns0_OPPOSITES, ⟨_, rfl⟩⟩, fun _ _ => .str (n := 2) (by decide)⟩, (List.forall_mem_cons.mpr ⟨⟨.str (txt 0), ⟨_, _, _, o_OPPOSITES, kl_OPPOSITES, ns1_OPPOSITES, ⟨_, rfl⟩⟩, fun _ _ => .str (n := 0) (by decide)⟩, (List.forall_mem_cons.mpr ⟨⟨.str (txt 1), ⟨_, _, _, o_OPPOSITES, kl_OPPOSITES, ns2_OPPOSITES, ⟨_, rfl⟩⟩, fun _ _ => .str (n := 1) (by decide)⟩, (List.forall_mem_cons.mpr ⟨⟨.str (txt 3), ⟨_, _, _, o_OPPOSITES, kl_OPPOSITES, ns3_OPPOSITES, ⟨_, rfl⟩⟩, fun _ _ => .str (n := 3) (by decide)⟩, (List.forall_mem_cons.mpr ⟨⟨.str (txt 5), ⟨_, _, _, o_OPPOSITES, kl_OPPOSITES, ns4_OPPOSITES, ⟨_, rfl⟩⟩, fun _ _ => .str (n := 5) (by decide)⟩, (List.forall_mem_cons.mpr ⟨⟨.str (txt 4), ⟨_, _, _, o_OPPOSITES, kl_OPPOSITES, ns5_OPPOSITES, ⟨_, rfl⟩⟩, fun _ _ => .str (n := 4) (by decide)⟩, (fun _ z => nomatch z)⟩)⟩)⟩)⟩)⟩)⟩)⟩
  refine ⟨PySem.W.fnOf "law" "law" (defArgs slaw) (defBody slaw) (defScope slaw) .none kV45 dc45 pm45 an45 cd45 ct45, [(cc_is_ascending, pp_is_ascending), (cc_are_groups, pp_are_groups), (cc__is_group, pp__is_group), (cc__are_rows, pp__are_rows), (cc_is_model, pp_is_model), (cc_is_as_said, pp_is_as_said), (cc_size_of_noun, pp_size_of_noun)], splaw (⟨K, [pp_is_ascending, pp_are_groups, pp__is_group, pp__are_rows, pp_is_model, pp_is_as_said, pp_size_of_noun], fun _ => none⟩ : En), (List.forall_mem_cons.mpr ⟨et_is_ascending, (List.forall_mem_cons.mpr ⟨et_are_groups, (List.forall_mem_cons.mpr ⟨et__is_group, (List.forall_mem_cons.mpr ⟨et__are_rows, (List.forall_mem_cons.mpr ⟨et_is_model, (List.forall_mem_cons.mpr ⟨et_is_as_said, (List.forall_mem_cons.mpr ⟨et_size_of_noun, (fun _ z => nomatch z)⟩)⟩)⟩)⟩)⟩)⟩)⟩), (List.forall_mem_cons.mpr ⟨en_is_ascending, (List.forall_mem_cons.mpr ⟨en_are_groups, (List.forall_mem_cons.mpr ⟨en__is_group, (List.forall_mem_cons.mpr ⟨en__are_rows, (List.forall_mem_cons.mpr ⟨en_is_model, (List.forall_mem_cons.mpr ⟨en_is_as_said, (List.forall_mem_cons.mpr ⟨en_size_of_noun, (fun _ z => nomatch z)⟩)⟩)⟩)⟩)⟩)⟩)⟩), (List.forall_mem_cons.mpr ⟨ed_is_ascending, (List.forall_mem_cons.mpr ⟨ed_are_groups, (List.forall_mem_cons.mpr ⟨ed__is_group, (List.forall_mem_cons.mpr ⟨ed__are_rows, (List.forall_mem_cons.mpr ⟨ed_is_model, (List.forall_mem_cons.mpr ⟨ed_is_as_said, (List.forall_mem_cons.mpr ⟨ed_size_of_noun, (fun _ z => nomatch z)⟩)⟩)⟩)⟩)⟩)⟩)⟩), fun s v => .of_eq rfl, fun H a ns hl _ ht hS => ⟨a, ns, rfl, hS, hl, by
    intro b hb
    have hb : b ∈ [pp_is_ascending, pp_are_groups, pp__is_group, pp__are_rows, pp_is_model, pp_is_as_said, pp_size_of_noun] := hb
    simp only [List.mem_cons, List.not_mem_nil, or_false] at hb
    rcases hb with hb | hb | hb | hb | hb | hb | hb
    · rw [hb]; exact ⟨#[], ht (cc_is_ascending, pp_is_ascending) (List.mem_cons_self), trivial⟩
    · rw [hb]; exact ⟨#[], ht (cc_are_groups, pp_are_groups) (List.mem_cons_of_mem _ (List.mem_cons_self)), trivial⟩
    · rw [hb]; exact ⟨#[], ht (cc__is_group, pp__is_group) (List.mem_cons_of_mem _ (List.mem_cons_of_mem _ (List.mem_cons_self))), trivial⟩
    · rw [hb]; exact ⟨#[], ht (cc__are_rows, pp__are_rows) (List.mem_cons_of_mem _ (List.mem_cons_of_mem _ (List.mem_cons_of_mem _ (List.mem_cons_self)))), trivial⟩
    · rw [hb]; exact ⟨#[], ht (cc_is_model, pp_is_model) (List.mem_cons_of_mem _ (List.mem_cons_of_mem _ (List.mem_cons_of_mem _ (List.mem_cons_of_mem _ (List.mem_cons_self))))), trivial⟩
    · rw [hb]; exact ⟨#[], ht (cc_is_as_said, pp_is_as_said) (List.mem_cons_of_mem _ (List.mem_cons_of_mem _ (List.mem_cons_of_mem _ (List.mem_cons_of_mem _ (List.mem_cons_of_mem _ (List.mem_cons_self)))))), trivial⟩
    · rw [hb]; exact ⟨#[], ht (cc_size_of_noun, pp_size_of_noun) (List.mem_cons_of_mem _ (List.mem_cons_of_mem _ (List.mem_cons_of_mem _ (List.mem_cons_of_mem _ (List.mem_cons_of_mem _ (List.mem_cons_of_mem _ (List.mem_cons_self))))))), trivial⟩
  , fun _ => rfl⟩, fun base _ _ TB => law_ok (ok_law T ⟨(let t := TB _ (List.mem_cons_self); ⟨t.code, t.bm, t.gP⟩), (let t := TB _ (List.mem_cons_of_mem _ (List.mem_cons_self)); ⟨t.code, t.bm, t.gP⟩), (let t := TB _ (List.mem_cons_of_mem _ (List.mem_cons_of_mem _ (List.mem_cons_self))); ⟨t.code, t.bm, t.gP⟩), (let t := TB _ (List.mem_cons_of_mem _ (List.mem_cons_of_mem _ (List.mem_cons_of_mem _ (List.mem_cons_self)))); ⟨t.code, t.bm, t.gP⟩), (let t := TB _ (List.mem_cons_of_mem _ (List.mem_cons_of_mem _ (List.mem_cons_of_mem _ (List.mem_cons_of_mem _ (List.mem_cons_self))))); ⟨t.code, t.bm, t.gP⟩), (let t := TB _ (List.mem_cons_of_mem _ (List.mem_cons_of_mem _ (List.mem_cons_of_mem _ (List.mem_cons_of_mem _ (List.mem_cons_of_mem _ (List.mem_cons_self)))))); ⟨t.code, t.bm, t.gP⟩), (let t := TB _ (List.mem_cons_of_mem _ (List.mem_cons_of_mem _ (List.mem_cons_of_mem _ (List.mem_cons_of_mem _ (List.mem_cons_of_mem _ (List.mem_cons_of_mem _ (List.mem_cons_self))))))); ⟨t.code, t.bm, t.gP⟩)⟩ F45) law_true⟩
end V
open PySem PySem.W PyProof.Rows in
set_option maxRecDepth 100000 in
set_option maxHeartbeats 0 in
theorem PySem.Challenge.cw_allsomeno_k54_whole_models_written_other_holds : PySem.Challenge.rw_allsomeno_k54_whole_models_written_other.Holds := by
  w_on; o_law; k_head; (case hw => w_witness2)
  k_fill
  refine GXX.walk_tabs (l := PySem.Challenge.rw_allsomeno_k54_whole_models_written_other) (n := 63) (k := 12) (x := "script") (CX := fun _ => L2.CX0) rfl (by decide) rfl ⟨rfl, by decide, by decide⟩ (fun w h Y => PySem.W.kIn_of Y) ?F (fun _ _ _ _ _ h => h)
  case F =>
    intro w mg fa h Y KX G hmg DT
    refine' V.all_mk KX G hmg DT ?a1 ?l1 ?c1 ?k1 ?a2 ?l2 ?c2 ?k2 ?a3 ?l3 ?c3 ?k3 ?a4 ?l4 ?c4 ?k4 ?a5 ?l5 ?c5 ?k5 ?a6 ?l6 ?c6 ?k6 ?a7 ?l7 ?c7 ?k7 ?a8 ?l8 ?c8 ?k8 ?a9 ?l9 ?c9 ?k9 ?a10 ?l10 ?c10 ?k10 ?a11 ?l11 ?c11 ?k11 ?a12 ?l12 ?c12 ?k12 ?a13 ?l13 ?c13 ?k13 ?a14 ?l14 ?c14 ?k14 ?a15 ?l15 ?c15 ?k15 ?a16 ?l16 ?c16 ?k16 ?a17 ?l17 ?c17 ?k17 ?a18 ?l18 ?c18 ?k18 ?a19 ?l19 ?c19 ?k19 ?a20 ?l20 ?c20 ?k20 ?a21 ?l21 ?c21 ?k21 ?a22 ?l22 ?c22 ?k22 ?a23 ?l23 ?c23 ?k23 ?a24 ?l24 ?c24 ?k24 ?a25 ?l25 ?c25 ?k25 ?a26 ?l26 ?c26 ?k26 ?a27 ?l27 ?c27 ?k27 ?a28 ?l28 ?c28 ?k28 ?a29 ?l29 ?c29 ?k29 ?a30 ?l30 ?c30 ?k30 ?a31 ?l31 ?c31 ?k31 ?a32 ?l32 ?c32 ?k32 ?a33 ?l33 ?c33 ?k33 ?a34 ?l34 ?c34 ?k34 ?a35 ?l35 ?c35 ?k35 ?a36 ?l36 ?c36 ?k36 ?a37 ?l37 ?c37 ?k37 ?a38 ?l38 ?c38 ?k38 ?a39 ?l39 ?c39 ?k39 ?a40 ?l40 ?c40 ?k40 ?a41 ?l41 ?c41 ?k41 ?a42 ?l42 ?c42 ?k42 ?a43 ?l43 ?c43 ?k43 ?a44 ?l44 ?c44 ?k44 ?a45 ?l45 ?c45 ?k45 ?z_abs ?z_all ?z_any ?z_bool ?z_int ?z_isinstance ?z_len ?z_list ?z_range ?z_reversed ?z_sorted ?z_sum ?z_tuple ?z_zip ?m_MOST_NOUNS ?m_MOST_VERBS ?m_MOST_GROUPS ?m_MOST_OF_A_GROUP ?m_QUANTIFIERS ?o_QUANTIFIERS ?m_WORDS ?o_WORDS ?m_TRUE_FIRST ?o_TRUE_FIRST ?m_OTHER_QUANTIFIER ?o_OTHER_QUANTIFIER ?kl_OTHER_QUANTIFIER ?ns0_OTHER_QUANTIFIER ?ns1_OTHER_QUANTIFIER ?m_OPPOSITES ?o_OPPOSITES ?kl_OPPOSITES ?ns0_OPPOSITES ?ns1_OPPOSITES ?ns2_OPPOSITES ?ns3_OPPOSITES ?ns4_OPPOSITES ?ns5_OPPOSITES ?nt ?r_is_ascending ?r_are_groups ?r__is_group ?r__are_rows ?r_is_model ?r_is_as_said ?r_size_of_noun
    (case a1 => k_is); (case l1 => k_is); (case c1 => k_is); (case k1 => k_is); (case a2 => k_is); (case l2 => k_is); (case c2 => k_is); (case k2 => k_is); (case a3 => k_is); (case l3 => k_is); (case c3 => k_is); (case k3 => k_is); (case a4 => k_is); (case l4 => k_is); (case c4 => k_is); (case k4 => k_is); (case a5 => k_is); (case l5 => k_is); (case c5 => k_is); (case k5 => k_is); (case a6 => k_is); (case l6 => k_is); (case c6 => k_is); (case k6 => k_is); (case a7 => k_is); (case l7 => k_is); (case c7 => k_is); (case k7 => k_is); (case a8 => k_is); (case l8 => k_is); (case c8 => k_is); (case k8 => k_is); (case a9 => k_is); (case l9 => k_is); (case c9 => k_is); (case k9 => k_is); (case a10 => k_is); (case l10 => k_is); (case c10 => k_is); (case k10 => k_is); (case a11 => k_is); (case l11 => k_is); (case c11 => k_is); (case k11 => k_is); (case a12 => k_is); (case l12 => k_is); (case c12 => k_is); (case k12 => k_is); (case a13 => k_is); (case l13 => k_is); (case c13 => k_is); (case k13 => k_is); (case a14 => k_is); (case l14 => k_is); (case c14 => k_is); (case k14 => k_is); (case a15 => k_is); (case l15 => k_is); (case c15 => k_is); (case k15 => k_is); (case a16 => k_is); (case l16 => k_is); (case c16 => k_is); (case k16 => k_is); (case a17 => k_is); (case l17 => k_is); (case c17 => k_is); (case k17 => k_is); (case a18 => k_is); (case l18 => k_is); (case c18 => k_is); (case k18 => k_is); (case a19 => k_is); (case l19 => k_is); (case c19 => k_is); (case k19 => k_is); (case a20 => k_is); (case l20 => k_is); (case c20 => k_is); (case k20 => k_is); (case a21 => k_is); (case l21 => k_is); (case c21 => k_is); (case k21 => k_is); (case a22 => k_is); (case l22 => k_is); (case c22 => k_is); (case k22 => k_is); (case a23 => k_is); (case l23 => k_is); (case c23 => k_is); (case k23 => k_is); (case a24 => k_is); (case l24 => k_is); (case c24 => k_is); (case k24 => k_is); (case a25 => k_is); (case l25 => k_is); (case c25 => k_is); (case k25 => k_is); (case a26 => k_is); (case l26 => k_is); (case c26 => k_is); (case k26 => k_is); (case a27 => k_is); (case l27 => k_is); (case c27 => k_is); (case k27 => k_is); (case a28 => k_is); (case l28 => k_is); (case c28 => k_is); (case k28 => k_is); (case a29 => k_is); (case l29 => k_is); (case c29 => k_is); (case k29 => k_is); (case a30 => k_is); (case l30 => k_is); (case c30 => k_is); (case k30 => k_is); (case a31 => k_is); (case l31 => k_is); (case c31 => k_is); (case k31 => k_is); (case a32 => k_is); (case l32 => k_is); (case c32 => k_is); (case k32 => k_is); (case a33 => k_is); (case l33 => k_is); (case c33 => k_is); (case k33 => k_is); (case a34 => k_is); (case l34 => k_is); (case c34 => k_is); (case k34 => k_is); (case a35 => k_is); (case l35 => k_is); (case c35 => k_is); (case k35 => k_is); (case a36 => k_is); (case l36 => k_is); (case c36 => k_is); (case k36 => k_is); (case a37 => k_is); (case l37 => k_is); (case c37 => k_is); (case k37 => k_is); (case a38 => k_is); (case l38 => k_is); (case c38 => k_is); (case k38 => k_is); (case a39 => k_is); (case l39 => k_is); (case c39 => k_is); (case k39 => k_is); (case a40 => k_is); (case l40 => k_is); (case c40 => k_is); (case k40 => k_is); (case a41 => k_is); (case l41 => k_is); (case c41 => k_is); (case k41 => k_is); (case a42 => k_is); (case l42 => k_is); (case c42 => k_is); (case k42 => k_is); (case a43 => k_is); (case l43 => k_is); (case c43 => k_is); (case k43 => k_is); (case a44 => k_is); (case l44 => k_is); (case c44 => k_is); (case k44 => k_is); (case a45 => k_is); (case l45 => k_is); (case c45 => k_is); (case k45 => k_is); (case z_abs => k_is); (case z_all => k_is); (case z_any => k_is); (case z_bool => k_is); (case z_int => k_is); (case z_isinstance => k_is); (case z_len => k_is); (case z_list => k_is); (case z_range => k_is); (case z_reversed => k_is); (case z_sorted => k_is); (case z_sum => k_is); (case z_tuple => k_is); (case z_zip => k_is); (case m_MOST_NOUNS => k_is); (case m_MOST_VERBS => k_is); (case m_MOST_GROUPS => k_is); (case m_MOST_OF_A_GROUP => k_is); (case m_QUANTIFIERS => k_is); (case o_QUANTIFIERS => k_is); (case m_WORDS => k_is); (case o_WORDS => k_is); (case m_TRUE_FIRST => k_is); (case o_TRUE_FIRST => k_is); (case m_OTHER_QUANTIFIER => k_is); (case o_OTHER_QUANTIFIER => k_is); (case kl_OTHER_QUANTIFIER => exact ⟨⟨_, _, rfl, rfl⟩, ⟨⟨_, _, rfl, rfl⟩, trivial⟩⟩); (case ns0_OTHER_QUANTIFIER => k_is); (case ns1_OTHER_QUANTIFIER => k_is); (case m_OPPOSITES => k_is); (case o_OPPOSITES => k_is); (case kl_OPPOSITES => exact ⟨⟨_, _, rfl, rfl⟩, ⟨⟨_, _, rfl, rfl⟩, ⟨⟨_, _, rfl, rfl⟩, ⟨⟨_, _, rfl, rfl⟩, ⟨⟨_, _, rfl, rfl⟩, ⟨⟨_, _, rfl, rfl⟩, trivial⟩⟩⟩⟩⟩⟩); (case ns0_OPPOSITES => k_is); (case ns1_OPPOSITES => k_is); (case ns2_OPPOSITES => k_is); (case ns3_OPPOSITES => k_is); (case ns4_OPPOSITES => k_is); (case ns5_OPPOSITES => k_is); (case nt => kernel_rfl!); (case r_is_ascending => decide +kernel); (case r_are_groups => decide +kernel); (case r__is_group => decide +kernel); (case r__are_rows => decide +kernel); (case r_is_model => decide +kernel); (case r_is_as_said => decide +kernel); (case r_size_of_noun => decide +kernel)
