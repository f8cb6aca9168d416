import PyProof.Rows.All
import Wide.All
import OpenK.AllK
import Wide.FinOn
import HandS.ForMost
import HandS.IsInst
import HandS.Codes
import HandS.TupAny
import HandS.Deep
import HandS.AnyAll
import HandS.GenList
import HandS.EndOwn
import HandS.TupMul
import HandS.Style
import HandS.Sort
import HandS.Conv
import PySem.Challenge.RW_allsomeno_k15_subsets_and_at_least
set_option Elab.async false
set_option linter.all false
set_option maxRecDepth 100000
set_option maxHeartbeats 4000000

/-! ## all(..) and any(..) of a generator expression whose element may call: the generator's frame is a context of its own, its loop goes by a word of one's own -/
namespace GXX
open PySem PySem.Spec PyProof.Rows L2 GenW
section
variable {prog : Program} {w : World} {A : Around}
/-- the generator's loop, by any word J over (turns left, state): an item out (Yd), the end (Fin) -/
theorem seg_loopJ {elt iter tg : Expr} {scope : Scope} {pos : Pos} {it : Addr} {cenv : Env} {J : Nat → Shared → Prop} {Fn : Shared → Prop} {Yd : Nat → Value → Shared → Prop} {Sl : Value → Shared → Shared → Prop}
    (hco : cenv.scope.isCoroutine = false)
    (turn : ∀ k s, J k s → wpAny (model prog w) (A.over (.compLoop (.GeneratorExp elt [⟨tg, iter, [], 0⟩] scope pos) 0 (.ref it) .none cenv) []) (pyNext (.ref it)) (fun r s1 => match r with
      | none => Fn s1
      | some v => wpAny (model prog w) (A.over (.compLoop (.GeneratorExp elt [⟨tg, iter, [], 0⟩] scope pos) 0 (.ref it) .none cenv) []) (letOwnedTupleGo tg (.ref it) v) (fun _ s2 =>
          wpAny (model prog w) (A.over (.compLoop (.GeneratorExp elt [⟨tg, iter, [], 0⟩] scope pos) 0 (.ref it) .none cenv) []) (assign tg cenv v) (fun _ s3 =>
            wpAny (model prog w) (A.over (.compLoop (.GeneratorExp elt [⟨tg, iter, [], 0⟩] scope pos) 0 (.ref it) .none cenv) []) (eval elt cenv) (fun y s4 => Yd k y s4) (fun _ _ => False) s3) (fun _ _ => False) s2) (fun _ _ => False) s1) (fun _ _ => False) s)
    (back : ∀ k y s s', Yd k y s → Sl y s s' → ∃ k', k' < k ∧ J k' s') :
    ∀ (n k : Nat) (s₀ s : Shared), k < n → J k s →
      Seg (model prog w) A (fun _ _ r s1 => r = .ok .next ∧ Fn s1) (fun _ _ v s kap => ∃ k, Yd k v s ∧ ∀ s', Sl v s s' → kap (.send .none) s') n s₀
        (.compLoop (.GeneratorExp elt [⟨tg, iter, [], 0⟩] scope pos) 0 (.ref it) .none cenv) ((model prog w).den (.compLoop (.GeneratorExp elt [⟨tg, iter, [], 0⟩] scope pos) 0 (.ref it) .none cenv)) [] s := by
  intro n
  induction n with
  | zero => exact fun k _ _ h => absurd h (Nat.not_lt_zero k)
  | succ n ih =>
    intro k s₀ s hk hJ
    show Seg _ A _ _ _ s₀ _ ((compTurn (.GeneratorExp elt [⟨tg, iter, [], 0⟩] scope pos) 0 (.ref it) .none cenv).onRaise (leaving cenv)) [] s
    rw [compTurn_gen, Sem.onRaise_eq_wrap]
    refine seg_bind_wrap (wpAny_standAt ?_)
    refine seg_bind_wrap (wpAny_mono (turn k s hJ) (fun r s1 h1 => ?_) fun _ _ z => z.elim)
    cases r with
    | none => exact seg_end (.ok .next) ⟨rfl, h1⟩
    | some v =>
      refine seg_bind_wrap (wpAny_mono h1 (fun _ s2 h2 => ?_) fun _ _ z => z.elim)
      refine seg_bind_wrap (wpAny_mono h2 (fun _ s3 h3 => ?_) fun _ _ z => z.elim)
      simp only [List.forIn_nil, pure_bind, if_true]
      have hy : ∀ v, yieldOut cenv v = yieldValue v := fun v => by simp only [yieldOut, hco, Bool.false_eq_true, if_false]
      simp only [hy]
      rw [Sem.bind_eq_wrap', Sem.bind_eq_wrap', Sem.wrap_wrap, Sem.wrap_wrap]
      refine seg_wrap (wpAny_mono h3 (fun y s4 h4 => ?_) fun _ _ z => z.elim)
      refine seg_at (seg_yield rfl rfl rfl ⟨k, h4, fun s' hs => ?_⟩)
      obtain ⟨k', hk', hJ'⟩ := back k y s4 s' h4 hs
      exact seg_again rfl (ih k' s' s' (by omega) hJ')
end
end GXX
namespace GXX
open PySem PySem.Spec PyProof.Rows L2 GenW
section
variable {prog : Program} {w : World} {A : Around}
/-- .. from its start -/
theorem seg_startJ {elt iter tg : Expr} {scope : Scope} {pos : Pos} {it : Addr} {cenv : Env} {R : GenEnd} {Y : Protocol} {n : Nat} {s₀ s : Shared}
    (self : ∀ (A' : Around) (Q : Value → Shared → Prop) (E : Value → Shared → Prop), Q (.ref it) s → wpAny (model prog w) A' (pyIter (.ref it)) Q E s)
    (loop : Seg (model prog w) A R Y n s₀ (.compLoop (.GeneratorExp elt [⟨tg, iter, [], 0⟩] scope pos) 0 (.ref it) .none cenv) ((model prog w).den (.compLoop (.GeneratorExp elt [⟨tg, iter, [], 0⟩] scope pos) 0 (.ref it) .none cenv)) [] s) :
    Seg (model prog w) A R Y n s₀ (.compStart (.GeneratorExp elt [⟨tg, iter, [], 0⟩] scope pos) 0 (.ref it) .none cenv) ((model prog w).den (.compStart (.GeneratorExp elt [⟨tg, iter, [], 0⟩] scope pos) 0 (.ref it) .none cenv)) [] s := by
  show Seg _ A _ _ _ s₀ _ ((compStart (.GeneratorExp elt [⟨tg, iter, [], 0⟩] scope pos) 0 (.ref it) .none cenv).onRaise (leaving cenv)) [] s
  unfold compStart
  rw [Sem.onRaise_eq_wrap]
  show Seg _ A _ _ _ s₀ _ ((ask >>= _).wrap _ _ _ _) [] s
  refine seg_bind_wrap (wpAny_askSetting ?_)
  split
  · exact seg_again rfl loop
  · refine seg_bind_wrap (wpAny_rule ?_)
    show Seg _ A _ _ _ s₀ _ ((standAt iter.pos >>= _).wrap _ _ _ _) [] s
    exact seg_bind_wrap (wpAny_standAt (seg_bind_wrap (self _ _ _ (seg_again rfl loop))))
/-! ### all(g), any(g) -/
/-- a generator that sleeps: whoever wakes it goes on by R, Y -/
def Asleep (prog : Program) (w : World) (A : Around) (a : Addr) (g : Nat) (R : GenEnd) (Y : Protocol) (n : Nat) (s : Shared) : Prop :=
  s.heap.IsGen a g ∧ s.heap.NoLimit ∧ ∃ gs, s.gens[g]? = some gs ∧ gs.Goes (model prog w) A R Y n (.send .none) (s.setGen g .running)
/-- while it slept nothing went on -/
structure Still (s s' : Shared) : Prop where
  os : s'.os = s.os
  bare : AllBare s'.gens
  heap : s'.heap = s.heap
abbrev RJ (Fn : Shared → Prop) : GenEnd := fun _ _ r s1 => r = .ok .next ∧ Fn s1
/-- the consumer goes on behind the truth that is not brk -/
def On (brk : Bool) (v : Value) (s s' : Shared) : Prop := v = .bool (!brk) ∧ Still s s'
abbrev YJ (brk : Bool) (Yd : Nat → Value → Shared → Prop) : Protocol := fun _ _ v s kap => ∃ k, Yd k v s ∧ ∀ s', On brk v s s' → kap (.send .none) s'
/-- an item: a truth, the generator as it was -/
def Item (a : Addr) (g : Nat) (Yd : Nat → Value → Shared → Prop) : Prop := ∀ k v s, Yd k v s → (∃ b, v = .bool b) ∧ AllBare s.gens ∧ s.heap.NoLimit ∧ s.heap.IsGen a g
theorem all_loopJ {a : Addr} {g : Nat} {Fn : Shared → Prop} {Yd : Nat → Value → Shared → Prop} {Rr : Result → Shared → Prop} (hh : A.handled = none) (hd : A.depth < recursionLimit) (hi : Item a g Yd)
    (hfin : ∀ s' h', Fn s' → (∀ b o, s'.heap.get? b = some o → h'.get? b = some o) → Rr (.ok (.ret (.bool true))) { s'.setGen g .finished with heap := h' })
    (hno : ∀ k s' gs', Yd k (.bool false) s' → gs'.bare = true → Rr (.ok (.ret (.bool false))) (s'.setGen g gs')) :
    ∀ (n : Nat) (s : Shared), Asleep prog w A.in1.in1 a g (RJ Fn) (YJ false Yd) n s → codeAny (model prog w) A (.builtin "all.loop" ⟨[.ref a], []⟩) Rr s := by
  intro n
  induction n with
  | zero =>
    intro s ⟨hg, hl, gs, hgs, hgo⟩
    refine codeAny_builtin F.entry_all_loop ?_
    rw [Around.under_plainId F.plain_all_loop _]
    show wpAny _ A.in1 (pyNext (.ref a) >>= _) _ _ s
    refine wpAny_bind (wpAny_pyNext_genexpQ (A := A.in1) (P := fun _ _ s1 => Fn s1) hh hl hd hg hgs hgo (fun v s1 gs' hb hv => ?_) fun s1 hp h' hk => ?_)
    · obtain ⟨k, hY, hk⟩ := hv
      obtain ⟨⟨b, rfl⟩, hba, _, _⟩ := hi k v s1 hY
      cases b with
      | true => exact (hk s1 ⟨rfl, rfl, hba, rfl⟩).elim
      | false =>
        refine wpAny_bind (wpAny_holding (wpAny_truthy_bool ?_))
        refine wpAny_bind (wpAny_letGo ?_)
        simp only [Bool.false_eq_true, if_false]
        first
          | exact wpAny_pure (hno k s1 gs' hY hb)
          | exact wpAny_bind (wpAny_rule (wpAny_pure (hno k s1 gs' hY hb)))
    · exact wpAny_bind (wpAny_rule (wpAny_pure (hfin _ _ hp hk)))
  | succ n ih =>
    intro s ⟨hg, hl, gs, hgs, hgo⟩
    have hgl : g < s.gens.size := (Array.getElem?_eq_some_iff.mp hgs).1
    refine codeAny_builtin F.entry_all_loop ?_
    rw [Around.under_plainId F.plain_all_loop _]
    show wpAny _ A.in1 (pyNext (.ref a) >>= _) _ _ s
    refine wpAny_bind (wpAny_gsz (n := g + 1) hgl (wpAny_pyNext_genexpQ (A := A.in1) (P := fun _ _ s1 => Fn s1) hh hl hd hg hgs hgo (fun v s1 gs' hb hv => ?_) fun s1 hp h' hk => ?_))
    · intro hsz
      obtain ⟨k, hY, hk⟩ := hv
      obtain ⟨⟨b, rfl⟩, hba, hl1, hg1⟩ := hi k v s1 hY
      have hsz1 : g < s1.gens.size := by
        have q : (s1.setGen g gs').gens.size = s1.gens.size := setGen_size _ _ _
        have hsz' : g + 1 ≤ (s1.setGen g gs').gens.size := hsz
        omega
      refine wpAny_bind (wpAny_holding (wpAny_truthy_bool ?_))
      refine wpAny_bind (wpAny_letGo ?_)
      cases b with
      | true =>
        simp only [if_true]
        refine wpAny_pure ⟨plainId_quiet F.plain_all_loop _, ih _ ⟨hg1, hl1, gs', setGen_at hsz1, ?_⟩⟩
        exact hk _ ⟨rfl, rfl, allBare_setGen (s := s1.setGen g gs') (allBare_setGen hba hb) rfl, rfl⟩
      | false =>
        simp only [Bool.false_eq_true, if_false]
        first
          | exact wpAny_pure (hno k s1 gs' hY hb)
          | exact wpAny_bind (wpAny_rule (wpAny_pure (hno k s1 gs' hY hb)))
    · intro _
      exact wpAny_bind (wpAny_rule (wpAny_pure (hfin _ _ hp hk)))
theorem any_loopJ {a : Addr} {g : Nat} {Fn : Shared → Prop} {Yd : Nat → Value → Shared → Prop} {Rr : Result → Shared → Prop} (hh : A.handled = none) (hd : A.depth < recursionLimit) (hi : Item a g Yd)
    (hfin : ∀ s' h', Fn s' → (∀ b o, s'.heap.get? b = some o → h'.get? b = some o) → Rr (.ok (.ret (.bool false))) { s'.setGen g .finished with heap := h' })
    (hno : ∀ k s' gs', Yd k (.bool true) s' → gs'.bare = true → Rr (.ok (.ret (.bool true))) (s'.setGen g gs')) :
    ∀ (n : Nat) (s : Shared), Asleep prog w A.in1.in1 a g (RJ Fn) (YJ true Yd) n s → codeAny (model prog w) A (.builtin "any.loop" ⟨[.ref a], []⟩) Rr s := by
  intro n
  induction n with
  | zero =>
    intro s ⟨hg, hl, gs, hgs, hgo⟩
    refine codeAny_builtin F.entry_any_loop ?_
    rw [Around.under_plainId F.plain_any_loop _]
    show wpAny _ A.in1 (pyNext (.ref a) >>= _) _ _ s
    refine wpAny_bind (wpAny_pyNext_genexpQ (A := A.in1) (P := fun _ _ s1 => Fn s1) hh hl hd hg hgs hgo (fun v s1 gs' hb hv => ?_) fun s1 hp h' hk => ?_)
    · obtain ⟨k, hY, hk⟩ := hv
      obtain ⟨⟨b, rfl⟩, hba, _, _⟩ := hi k v s1 hY
      cases b with
      | false => exact (hk s1 ⟨rfl, rfl, hba, rfl⟩).elim
      | true =>
        refine wpAny_bind (wpAny_holding (wpAny_truthy_bool ?_))
        refine wpAny_bind (wpAny_letGo ?_)
        simp only [if_true]
        first
          | exact wpAny_pure (hno k s1 gs' hY hb)
          | exact wpAny_bind (wpAny_rule (wpAny_pure (hno k s1 gs' hY hb)))
    · exact wpAny_bind (wpAny_rule (wpAny_pure (hfin _ _ hp hk)))
  | succ n ih =>
    intro s ⟨hg, hl, gs, hgs, hgo⟩
    have hgl : g < s.gens.size := (Array.getElem?_eq_some_iff.mp hgs).1
    refine codeAny_builtin F.entry_any_loop ?_
    rw [Around.under_plainId F.plain_any_loop _]
    show wpAny _ A.in1 (pyNext (.ref a) >>= _) _ _ s
    refine wpAny_bind (wpAny_gsz (n := g + 1) hgl (wpAny_pyNext_genexpQ (A := A.in1) (P := fun _ _ s1 => Fn s1) hh hl hd hg hgs hgo (fun v s1 gs' hb hv => ?_) fun s1 hp h' hk => ?_))
    · intro hsz
      obtain ⟨k, hY, hk⟩ := hv
      obtain ⟨⟨b, rfl⟩, hba, hl1, hg1⟩ := hi k v s1 hY
      have hsz1 : g < s1.gens.size := by
        have q : (s1.setGen g gs').gens.size = s1.gens.size := setGen_size _ _ _
        have hsz' : g + 1 ≤ (s1.setGen g gs').gens.size := hsz
        omega
      refine wpAny_bind (wpAny_holding (wpAny_truthy_bool ?_))
      refine wpAny_bind (wpAny_letGo ?_)
      cases b with
      | false =>
        simp only [Bool.false_eq_true, if_false]
        refine wpAny_pure ⟨plainId_quiet F.plain_any_loop _, ih _ ⟨hg1, hl1, gs', setGen_at hsz1, ?_⟩⟩
        exact hk _ ⟨rfl, rfl, allBare_setGen (s := s1.setGen g gs') (allBare_setGen hba hb) rfl, rfl⟩
      | true =>
        simp only [if_true]
        first
          | exact wpAny_pure (hno k s1 gs' hY hb)
          | exact wpAny_bind (wpAny_rule (wpAny_pure (hno k s1 gs' hY hb)))
    · intro _
      exact wpAny_bind (wpAny_rule (wpAny_pure (hfin _ _ hp hk)))
end
end GXX
namespace GXX
open PySem PySem.Spec PyProof.Rows L2 GenW
/-- the context of a generator expression's frame, woken by a built-in's loop -/
abbrev genCx (X : Cx) (s : Shared) (H : Hp) (scope : Scope) (cl : List (Str × Addr)) (C : Addr) (code : Value) (c : Env → Code) (fp : List Addr) : Cx :=
  { X with s_0 := s, H_0 := H, env := genEnv scope cl C code builtinsNs X.env, outer := X.stack, stack := genEnv scope cl C code builtinsNs X.env :: X.stack,
           A := X.A.in1.in1.over (c (genEnv scope cl C code builtinsNs X.env)) [], ex := fp, fn := fun _ => false, pn := [], xe := fun _ _ => False }
section
variable {X : Cx} {pins : List (Addr × Obj)} {σ : L2.St} {H : Hp} {s s5 : Shared}
theorem gen_start {scope : Scope} {own : List (Str × Nat)} {fp : List Addr} {code : Value} {c : Env → Code} {a : Addr} {go : Obj} {m : Str → Option Value}
    (I : Inv X pins σ H s) (ok : BlkOk X.N X.env.scope scope own) (noc : ∀ y ∈ scope.names, y.2 ≠ .cell) (hN : X.N.Nodup) (hfp : ∀ b ∈ fp, FpOk X pins H b ∧ b < s.heap.objs.size)
    (hc : ∀ e, (c e).envs = [e]) (kp : ∀ b o, s.heap.get? b = some o → s5.heap.get? b = some o) (hos : s5.os = s.os) (hba : AllBare s5.gens) (hm : s5.heap.Ns s.heap.objs.size m)
    (hga : s5.heap.get? a = some go) (hgd : ∀ v, go.data ≠ .cell v) (ha : s.heap.objs.size < a) :
    Inv (genCx X s H scope (cloFrom X.env.cells scope.names []) s.heap.objs.size code c fp) [(a, go)] (wipe σ (own.map (·.2))) H s5 := by
  have hfree : ∀ y ∈ scope.names, y.2 = .free → ∃ c, X.env.cells.lookup y.1 = some c := fun y hy e => (ok.free y hy e).elim (fun k => I.ok.has _ (.inl k)) fun k => I.ok.has _ (.inr k)
  have cm : ∀ {y b}, (y, b) ∈ cloFrom X.env.cells scope.names [] → X.env.cells.lookup y = some b := fun {y b} hm => by
    rcases cloFrom_mem hm with hm | ⟨h1, rfl⟩
    · cases hm
    · obtain ⟨c, hc⟩ := hfree _ h1 rfl
      rw [hc]
      rfl
  have cl : ∀ {y b}, (cloFrom X.env.cells scope.names []).lookup y = some b → X.env.cells.lookup y = some b := fun e => cm (PySem.mem_of_lookup e)
  have look : ∀ {y}, scope.names.lookup y = some .free → ∃ b, (cloFrom X.env.cells scope.names []).lookup y = some b ∧ X.env.cells.lookup y = some b := fun {y} hl => by
    obtain ⟨b, e⟩ := mem_lookup (cloFrom_has (cells := X.env.cells) (acc := []) (PySem.mem_of_lookup hl))
    exact ⟨b, e, cl e⟩
  have nocell : ∀ {y}, scope.names.lookup y = some .cell → False := fun {y} e => noc _ (PySem.mem_of_lookup e) rfl
  have hX : (genCx X s H scope (cloFrom X.env.cells scope.names []) s.heap.objs.size code c fp).Ok :=
    { mod := I.ok.mod, kind := ok.kind, glob := I.ok.glob, blt := rfl, above := Nat.le_refl _,
      inj := fun y z b e1 e2 => I.ok.inj y z b (cl e1) (cl e2),
      has := fun y hy => by
        rcases hy with hy | hy
        · exact (nocell hy).elim
        · obtain ⟨b, e, _⟩ := look hy
          exact ⟨b, e⟩
      cab := fun y b z _ => nomatch z
      hd := I.ok.hd
      frames := by
        show pushEnvs (c _).envs (pushEnvs (envsOf []) X.A.frames) = _
        rw [hc, I.ok.frames]
        rfl
      stk := .inr ⟨rfl, rfl⟩
      exf := fun b hb => ⟨Nat.ne_of_lt (hfp b hb).2, fun y e h z => (hfp b hb).1.2.2.2.2.1 y e (cl h) z⟩
      bs := I.bs
      bsz := Nat.le_trans I.ok.bsz I.sz
      noex := fun b o e hb => (hfp b hb).1.2.2.2.1.elim (fun z => I.ok.noex b o e z) fun z => absurd (Nat.lt_of_lt_of_le (Heap.lt_size e) (Nat.le_trans I.ok.bsz z)) (Nat.lt_irrefl _)
      exfs := fun b hb z => (List.mem_cons.mp (I.stkSub b z)).elim (fun z => (hfp b hb).1.2.1 z) fun z => (hfp b hb).1.2.2.1 z
      funs := I.stack
      frf := I.stkFree }
  refine ⟨hX, hos, hba, Un.kept kp, ⟨m, hm, fun i y v e1 e2 e3 => ?_⟩, fun y b e => ?_, I.hok.fresh (Nat.le_refl _), fun y b e => I.freeC y b (cl e), fun p hp => ?_, I.hok.kept kp, by rw [wipe_length]; exact I.len⟩
  · obtain ⟨e2, hne⟩ := wipe_some e2
    have no : ∀ k, scope.names.lookup y = some k → k = .local ∨ k = .cell → False := fun k e hk => by
      rcases ok.own _ (PySem.mem_of_lookup e) hk with e' | e'
      · obtain ⟨p, hp, hpy⟩ := List.mem_map.mp e'
        have e4 := ok.ix p hp
        have hpy : p.1 = y := hpy
        rw [hpy] at e4
        exact hne (List.mem_map.mpr ⟨p, hp, nodup_ix hN e4 e1⟩)
      · exact e' (List.mem_of_getElem? e1)
    have fr : scope.names.lookup y = some .free := by
      rcases e3 with e3 | e3 | e3
      · exact (no _ e3 (.inl rfl)).elim
      · exact (no _ e3 (.inr rfl)).elim
      · exact e3
    obtain ⟨b, h1, h2⟩ := look fr
    obtain ⟨m', _, hl⟩ := I.loc
    have hv := ok.free _ (PySem.mem_of_lookup fr) rfl
    obtain ⟨u, r, q⟩ := hl i y v e1 e2 (hv.elim (fun k => .inr (.inl k)) fun k => .inr (.inr k))
    refine ⟨u, r, .inr ⟨.inr fr, b, h1, ?_⟩⟩
    rcases q with ⟨k, _⟩ | ⟨_, b', e', z⟩
    · have k : X.env.scope.names.lookup y = some .local := k
      rcases hv with k' | k' <;> (rw [k'] at k; cases k)
    · rw [h2] at e'
      cases e'
      exact z.keeps kp
  · obtain ⟨v, z⟩ := I.cell y b (cl e)
    exact ⟨v, z.keeps kp⟩
  · have hp : p ∈ ([] : List (Addr × Obj)) ++ [(a, go)] := hp
    rw [List.nil_append, List.mem_singleton] at hp
    subst hp
    refine ⟨hga, I.hok.fresh (Nat.le_of_lt ha), Nat.ne_of_gt ha, fun hb => ?_, hgd⟩
    rcases List.mem_cons.mp (I.stkSub a hb) with z | z
    · exact absurd (Nat.lt_trans (by rw [z]; exact I.lt) ha) (Nat.lt_irrefl _)
    · exact I.nofs (Nat.le_of_lt ha) z
/-- nothing went on -/
theorem inv_still {s' : Shared} (I : Inv X pins σ H s) (st : Still s s') : Inv X pins σ H s' := by
  obtain ⟨h', g', d', t', o'⟩ := s'
  obtain ⟨e1, e2, e3⟩ := st
  have e1 : o' = s.os := e1
  have e3 : h' = s.heap := e3
  subst e1 e3
  exact I.step (g' := g') (d' := d') (t' := t') (h' := s.heap) (ch := []) (fun b hb => absurd hb (by simp)) (fun b o _ _ _ e _ => e) (fun b o _ _ _ e _ => ⟨o.slots, e⟩) (fun b o _ _ n => n) (fun b o _ e => ⟨o, e⟩)
    (fun _ _ e => e) (fun _ _ _ e => e) (fun b ps e => ⟨#[], by rw [e]; simp⟩) (fun m hm => hm) I.hok e2
end
end GXX
namespace GXX
open PySem PySem.Spec PyProof.Rows L2 GenW GxR
/-- what all(..) (brk = false), any(..) (brk = true) of a generator expression ask: the walked thing, a word over (turn, turns left, heap), one turn: the target, the element, a truth -/
def tGen (P : Addr) (wi : TI) (g : TG) (te : TE) (vs : List Nat) (brk : Bool) : TE := fun σ H Q => wi σ H fun J H1 => TabG H1 P ∧ ∀ H2, Tabbed P H1 H2 → ∃ W : Nat → Nat → Hp → Prop, (∃ m, W 0 m H2) ∧ ∀ i m H, W i m H →
  (J.stop i H ∧ Q (.bl (!brk)) H) ∨ (J.go i H ∧ ∃ Nx : Hp → Prop, (∀ H', Nx H' → ∃ m', m' < m ∧ W (i + 1) m' H') ∧ ∀ x H', J.yld i H x H' → g x (wipe σ vs) H' fun σ2 H2 => wipe σ2 vs = wipe σ vs ∧
    te σ2 H2 fun y H3 => ∃ b, y = .bl b ∧ (b ≠ brk → Nx H3) ∧ (b = brk → Q (.bl brk) H3))
/-- the code that a generator expression runs -/
abbrev genCode (elt tg iter : Expr) (scope : Scope) (pos : Pos) (it : Addr) : Env → Code := fun e => .compLoop (.GeneratorExp elt [⟨tg, iter, [], 0⟩] scope pos) 0 (.ref it) .none e
theorem room_gen {X : Cx} {k : Nat} {s : Shared} {H : Hp} {scope sc2 : Scope} {cl : List (Str × Addr)} {C it : Addr} {code : Value} {fp : List Addr} {elt tg iter : Expr} {pos : Pos} (hr : Room (k + 1) X.A) : Room k (genCx X s H scope cl C code (genCode elt tg iter sc2 pos it) fp).A := by
  refine ⟨hr.hd, ?_, ?_⟩
  · have := hr.dp
    show X.A.depth + 0 + 1 + 3 * k + 5 < _
    omega
  · have := hr.un
    show X.A.units + 1 + 1 + 0 + 3 + 16 * k + 200 < _
    omega
section
variable {X : Cx} {pins : List (Addr × Obj)} {σ : L2.St} {H : Hp} {s : Shared}
theorem gen_made {c0 P : Addr} {elt iter tg : Expr} {scope : Scope} {gpos : Pos} {own : List (Str × Nat)} {wi : TI} {g : TG} {te : TE} {brk : Bool} {Q : VK} {Q' : Value → Shared → Prop}
    (hcalm : X.calm = true) (hhd : X.A.handled = none) (hdp : X.A.depth < recursionLimit) (TB : TabB X.base X.mg c0 P) (hcode : X.env.code = .ref c0) (hi : PI X tg iter wi) (ok : BlkOk X.N X.env.scope scope own) (noc : ∀ y ∈ scope.names, y.2 ≠ .cell)
    (hN : X.N.Nodup) (hdot : scope.names.lookup (".0" : Str) = some NameKind.local) (hco : scope.isCoroutine = false)
    (hg : ∀ (s : Shared) (H : Hp) (cl : List (Str × Addr)) (C : Addr) (code : Value) (it : Addr) (fp : List Addr), PG (genCx X s H scope cl C code (genCode elt tg iter scope gpos it) fp) tg g)
    (he : ∀ (s : Shared) (H : Hp) (cl : List (Str × Addr)) (C : Addr) (code : Value) (it : Addr) (fp : List Addr), PE (genCx X s H scope cl C code (genCode elt tg iter scope gpos it) fp) elt te)
    (hs : ∀ v, genFold iter X.env v = pure v) (I : Inv X pins σ H s) (h : tGen P wi g te (own.map (·.2)) brk σ H Q)
    (hQ : ∀ (a : Addr) (g0 n : Nat) (s5 : Shared) (Fn : Shared → Prop) (Yd : Nat → Value → Shared → Prop), Item a g0 Yd →
      (∀ s' h', Fn s' → (∀ b o, s'.heap.get? b = some o → h'.get? b = some o) → EP X pins σ Q (.bool (!brk)) { s'.setGen g0 .finished with heap := h' }) →
      (∀ k s' gs', Yd k (.bool brk) s' → gs'.bare = true → EP X pins σ Q (.bool brk) (s'.setGen g0 gs')) →
      Asleep X.prog X.w X.A.in1.in1 a g0 (RJ Fn) (YJ brk Yd) n s5 → Q' (.ref a) s5) :
    wpAny (model X.prog X.w) X.A (eval (.GeneratorExp elt [⟨tg, iter, [], 0⟩] scope gpos) X.env) Q' X.xe s := by
  have hfree : ∀ y ∈ scope.names, y.2 = .free → ∃ c, X.env.cells.lookup y.1 = some c := fun y hy e => (ok.free y hy e).elim (fun k => I.ok.has _ (.inl k)) fun k => I.ok.has _ (.inr k)
  refine wpAny_GeneratorExp_make hco (closure_ok hfree) noc hdot ok.kind hdp ?_ hs
  refine thn (hi.run pins s σ H _ I h) fun xv s1 h1 => thn h1 fun itv s2 h2 => ?_
  obtain ⟨it, fp, tn, J, H2, e, I2, T, st2, f2, ⟨ps, hP, ht⟩, q⟩ := h2
  subst e
  refine ⟨I2.nolimit, ?_⟩
  have hPs : s2.heap.get? P = some { cls := .none, data := .fields ps } := I2.hok P _ hP
  have cd : PySem.W.CodeHd s2.heap c0 P := TB.code.keeps fun b u e => I2.bk b u e
  have fpP : ∀ b ∈ fp, b ≠ P := fun b hb z => by
    have := (f2 b hb).1
    rw [z, hP] at this
    cases this
  -- behind the code's making
  have cont : ∀ (code : Value) (s3 : Shared) (H3 : Hp), Inv X pins σ H3 s3 → Tabbed P H2 H3 → (∀ b o, b ≠ P → s2.heap.get? b = some o → s3.heap.get? b = some o) →
      wpAny (model X.prog X.w) X.A (builtinsFor X.env.globals X.env.builtins) (fun bi s4 => ∀ h', h'.Ns s4.heap.objs.size (fun y => if y = ".0" then some (Value.ref it) else none) → Heap.SameBut s4.heap.objs.size (s4.heap.push { cls := .type "frame", data := .dict #[] }) h' →
          Q' (.ref h'.objs.size) { s4 with
            gens := s4.gens.push (.fresh (.compStart (.GeneratorExp elt [⟨tg, iter, [], 0⟩] scope gpos) 0 (.ref it) .none (genEnv scope (cloFrom X.env.cells scope.names []) s4.heap.objs.size code bi X.env))),
            toks := s4.toks + 1 + 1 + 1,
            heap := h'.push { cls := .type "generator", data := .fields #[.int s4.gens.size 0, .str "<genexpr>" (s4.toks + 1), .str (X.env.qual ++ "<genexpr>") (s4.toks + 1 + 1)] } }) X.xe s3 := by
    intro code s3 H3 I3 htab k23
    obtain ⟨bm, ob, e1, e2, e3, e4, e5, e6, e7, e8⟩ := TB.bm
    refine wpAny_builtinsFor (m := X.mg) (by rw [I3.ok.glob]; exact I3.mod.glob.keeps I3.bk) e1 e2 (I3.bk _ _ e5) e6 e7 e8 ?_
    intro h' hns hsb
    obtain ⟨W, ⟨m0, w0⟩, turn⟩ := q H3 htab
    generalize hgo : ({ cls := .type "generator", data := .fields #[.int s3.gens.size 0, .str "<genexpr>" (s3.toks + 1), .str (X.env.qual ++ "<genexpr>") (s3.toks + 1 + 1)] } : Obj) = go
    generalize hs5 : ({ s3 with gens := s3.gens.push (.fresh (.compStart (.GeneratorExp elt [⟨tg, iter, [], 0⟩] scope gpos) 0 (.ref it) .none (genEnv scope (cloFrom X.env.cells scope.names []) s3.heap.objs.size code builtinsNs X.env))), toks := s3.toks + 1 + 1 + 1, heap := h'.push go } : Shared) = s5
    have h5 : s5.heap = h'.push go := by rw [← hs5]
    have g5 : s5.gens = s3.gens.push (.fresh (.compStart (.GeneratorExp elt [⟨tg, iter, [], 0⟩] scope gpos) 0 (.ref it) .none (genEnv scope (cloFrom X.env.cells scope.names []) s3.heap.objs.size code builtinsNs X.env))) := by rw [← hs5]
    have o5 : s5.os = s3.os := by rw [← hs5]
    have sz' : h'.objs.size = s3.heap.objs.size + 1 := by rw [hsb.1, Heap.size_push]
    have k3' : ∀ b o, s3.heap.get? b = some o → h'.get? b = some o := fun b o e => (hsb.2 b (Nat.ne_of_lt (Heap.lt_size e))).trans (Heap.get?_push_of_some _ e)
    have k35 : ∀ b o, s3.heap.get? b = some o → s5.heap.get? b = some o := fun b o e => by rw [h5]; exact Heap.get?_push_of_some _ (k3' b o e)
    have ga : s5.heap.get? h'.objs.size = some go := by
      rw [h5, ← hgo]
      exact Heap.get?_push_size _ rfl
    have gd : ∀ v, go.data ≠ .cell v := fun v z => by
      rw [← hgo] at z
      cases z
    have isg : ∀ {h6 : Heap}, h6.get? h'.objs.size = some go → h6.IsGen h'.objs.size s3.gens.size := fun e => ⟨go, _, _, e, by rw [← hgo], by rw [← hgo], by rw [← hgo]⟩
    have f3 : ∀ b ∈ fp, FpOk X pins H3 b ∧ b < s3.heap.objs.size := fun b hb => by
      obtain ⟨o, e, _⟩ := T.obj _ _ st2 b hb
      refine ⟨⟨?_, (f2 b hb).2⟩, Heap.lt_size (k23 b o (fpP b hb) e)⟩
      rw [htab.2 b (fpP b hb)]
      exact (f2 b hb).1
    have st5 : tn 0 s5.heap := T.keep _ _ _ st2 fun b hb o e => k35 b o (k23 b o (fpP b hb) e)
    have b5 : AllBare s5.gens := by
      rw [g5]
      exact I3.bare.push rfl
    have ns5 : s5.heap.Ns s3.heap.objs.size (fun y => if y = ".0" then some (Value.ref it) else none) := by
      rw [h5]
      exact hns.push _
    have I5 := gen_start (code := code) (c := genCode elt tg iter scope gpos it) I3 ok noc hN f3 (fun _ => rfl) k35 o5 b5 ns5 ga gd (by rw [sz']; exact Nat.lt_succ_self _)
    generalize hXg : genCx X s3 H3 scope (cloFrom X.env.cells scope.names []) s3.heap.objs.size code (genCode elt tg iter scope gpos it) fp = Xg at I5
    have pg : PG Xg tg g := by rw [← hXg]; exact hg _ _ _ _ _ _ _
    have pe : PE Xg elt te := by rw [← hXg]; exact he _ _ _ _ _ _ _
    have xP : Xg.prog = X.prog := by rw [← hXg]
    have xw : Xg.w = X.w := by rw [← hXg]
    have xK : Xg.K = X.K := by rw [← hXg]
    have xc : Xg.calm = true := by rw [← hXg]; exact hcalm
    have xA : Xg.A = X.A.in1.in1.over (.compLoop (.GeneratorExp elt [⟨tg, iter, [], 0⟩] scope gpos) 0 (.ref it) .none (genEnv scope (cloFrom X.env.cells scope.names []) s3.heap.objs.size code builtinsNs X.env)) [] := by rw [← hXg]
    have xE : Xg.env = genEnv scope (cloFrom X.env.cells scope.names []) s3.heap.objs.size code builtinsNs X.env := by rw [← hXg]
    have xe : Xg.xe = fun _ _ => False := by rw [← hXg]
    have xn : Xg.pn = [] := by rw [← hXg]
    have xex : Xg.ex = fp := by rw [← hXg]
    have fp5 : ∀ b ∈ fp, b ≠ h'.objs.size := fun b hb z => by
      have := (f3 b hb).2
      rw [z, sz'] at this
      exact absurd this (Nat.not_lt.mpr (Nat.le_succ _))
    have stat : ∀ {σ' : L2.St} {H' : Hp} {s' : Shared}, Inv Xg [(h'.objs.size, go)] σ' H' s' → (∀ b ∈ fp, H' b = none) → ∀ b ∈ fp, FpOk Xg [(h'.objs.size, go)] H' b := fun {σ' H' s'} I' hn b hb =>
      ⟨hn b hb, (I'.ok.exf b (by rw [xex]; exact hb)).1, I'.ok.exfs b (by rw [xex]; exact hb), .inl (by rw [xex]; exact hb), fun x c e => (I'.ok.exf b (by rw [xex]; exact hb)).2 x c e, fun p hp => by
        rw [xn, List.nil_append, List.mem_singleton] at hp
        rw [hp]
        exact (fp5 b hb).symm⟩
    have atg : ∀ {σ' : L2.St} {H' : Hp} {s' : Shared}, Inv Xg [(h'.objs.size, go)] σ' H' s' → s'.heap.get? h'.objs.size = some go := fun I' => (I'.pin (h'.objs.size, go) (List.mem_append_right _ List.mem_cons_self)).1
    -- back in the def
    have out : ∀ {σ' : L2.St} {H' : Hp} {s' s'' : Shared}, Inv Xg [(h'.objs.size, go)] σ' H' s' → s''.os = s'.os → AllBare s''.gens → (∀ b o, s'.heap.get? b = some o → s''.heap.get? b = some o) → Inv X pins σ H' s'' := fun {σ' H' s' s''} I' ho hb hk => by
      have un := I'.base
      have os' := I'.os
      have ok' := I'.hok
      rw [← hXg] at un os' ok'
      exact I3.call' (ch := fp) (ho.trans os') (un.trans (Un.kept hk)) (ok'.kept hk) hb fun b hb => ⟨(f3 b hb).1.2.2.2.1, (f3 b hb).1.2.1, (f3 b hb).1.2.2.2.2.1, (f3 b hb).1.2.2.2.2.2⟩
    refine hQ h'.objs.size s3.gens.size (m0 + 1) s5 (fun s' => ∃ σ' H', Inv Xg [(h'.objs.size, go)] σ' H' s' ∧ Q (.bl (!brk)) H')
      (fun k v s' => ∃ b σ' H', v = .bool b ∧ Inv Xg [(h'.objs.size, go)] σ' H' s' ∧ (b ≠ brk → ∃ i k', k' < k ∧ Inv Xg [(h'.objs.size, go)] (wipe σ (own.map (·.2))) H' s' ∧ tn i s'.heap ∧ (∀ b ∈ fp, H' b = none) ∧ W i k' H') ∧ (b = brk → Q (.bl brk) H'))
      (fun k v s' hy => ?_) (fun s' h6 hf hk => ?_) (fun k s' gs' hy hb => ?_) ⟨isg ga, I5.nolimit, .fresh (.compStart (.GeneratorExp elt [⟨tg, iter, [], 0⟩] scope gpos) 0 (.ref it) .none (genEnv scope (cloFrom X.env.cells scope.names []) s3.heap.objs.size code builtinsNs X.env)), by rw [g5]; exact Array.getElem?_push_size .., rfl, ?_⟩
    · obtain ⟨b, σ', H', rfl, I', _⟩ := hy
      exact ⟨⟨b, rfl⟩, I'.bare, I'.nolimit, isg (atg I')⟩
    · obtain ⟨σ', H', I', qf⟩ := hf
      exact ⟨.bl (!brk), H', out I' rfl (allBare_setGen I'.bare rfl) hk, rfl, qf⟩
    · obtain ⟨b, σ', H', hv, I', _, qb⟩ := hy
      cases hv
      exact ⟨.bl brk, H', out I' rfl (allBare_setGen I'.bare hb) (fun _ _ e => e), rfl, qb rfl⟩
    · -- the loop
      have run0 : Still s5 (s5.setGen s3.gens.size .running) := ⟨rfl, allBare_setGen b5 rfl, rfl⟩
      refine seg_startJ (fun A' Q E hq => T.self A' 0 _ Q E st5 hq) ?_
      refine seg_loopJ (J := fun k s' => ∃ i H', Inv Xg [(h'.objs.size, go)] (wipe σ (own.map (·.2))) H' s' ∧ tn i s'.heap ∧ (∀ b ∈ fp, H' b = none) ∧ W i k H') (Sl := On brk) hco (fun k s' hJ => ?_) (fun k y s' s'' hy hst => ?_) (m0 + 1) m0 _ _ (Nat.lt_succ_self _)
        ⟨0, H3, inv_still I5 run0, by rw [run0.heap]; exact st5, fun b hb => (f3 b hb).1.1, w0⟩
      · obtain ⟨i, H', I', st', n', w'⟩ := hJ
        have T' : Turn Xg.prog Xg.w Xg.K tg J fp it tn := by
          rw [xP, xw, xK]
          exact T
        rw [← xP, ← xw, ← xA, ← xE]
        rcases turn i k H' w' with ⟨stop, qq⟩ | ⟨go', Nx, hNx, step⟩
        · refine thnF (T'.done Xg rfl rfl rfl xc i _ s' _ H' (fun _ _ => False) I' (stat I' n') st' stop) fun r s6 ⟨hr, I6⟩ => ?_
          subst hr
          exact ⟨_, H', I6, qq⟩
        · refine thnF (T'.item Xg rfl rfl rfl xc i _ s' _ H' (fun _ _ => False) I' (stat I' n') st' go') fun r s6 ⟨u, hr, h6⟩ => ?_
          subst hr
          refine thnF h6 fun _ s7 ⟨x, H7, I7, r7, y7, st7, n7⟩ => ?_
          have I7' := I7.pinned (stat I7 n7) (T.obj _ _ st7)
          refine wpAny_mono (pg.run _ s7 _ H7 x u _ I7' r7 (step x H7 y7)) (fun _ s8 ⟨σ8, H8, I8, hw8, q8⟩ => ?_) fun _ _ z => by rw [xe] at z; exact z
          refine wpAny_mono (pe.run _ s8 σ8 H8 _ I8 q8) (fun z s9 ⟨yv, H9, I9, r9, b, hb, q1, q2⟩ => ?_) fun _ _ z => by rw [xe] at z; exact z
          subst hb
          have ez : z = Value.bool b := r9
          refine ⟨b, σ8, H9, ez, I9.unpinned, fun hne => ?_, q2⟩
          obtain ⟨m', hm, w9⟩ := hNx H9 (q1 hne)
          have pin9 : ∀ b ∈ fp, ∀ o, s7.heap.get? b = some o → s9.heap.get? b = some o ∧ H9 b = none := fun b hb o e =>
            let z := I9.pin (b, o) (List.mem_append_right _ (List.mem_append_right _ (mem_pinsAt hb e)))
            ⟨z.1, z.2.1⟩
          have hl : (wipe σ (own.map (·.2))).length = σ8.length := by rw [← hw8, wipe_length]
          refine ⟨i + 1, m', hm, (I9.unpinned).weak hl (fun j v e => ?_), T.keep _ _ _ st7 fun b hb o e => (pin9 b hb o e).1, fun b hb => ?_, w9⟩
          · rw [← hw8] at e
            exact (wipe_some e).1
          · obtain ⟨o, e, _⟩ := T.obj _ _ st7 b hb
            exact (pin9 b hb o e).2
      · obtain ⟨b, σ', H', hv, _, q1, _⟩ := hy
        obtain ⟨ev, st⟩ := hst
        rw [hv] at ev
        obtain ⟨i, k', hk, I', t', n', w'⟩ := q1 (fun z => by
          rw [z] at ev
          cases brk <;> cases ev)
        exact ⟨k', hk, i, H', inv_still I' st, by rw [st.heap]; exact t', n', w'⟩
  cases hf : codeAmong gpos ps.toList with
  | none =>
    refine wpAny_genexprCodeX hcode (cd.code hPs ht) (cd.tab hPs) hf fun c' h3 tk hx _ _ hco' _ htab' _ => ?_
    obtain ⟨_, _, _, _, _, _, _, _, _, _, _, _, _, _, _, _, _, _, _, htr, _⟩ := hco'
    have k23 : ∀ b o, b ≠ P → s2.heap.get? b = some o → h3.get? b = some o := fun b o hb e => hx b o hb e
    exact cont _ _ _ (inv_tab (g' := s2.gens) (d' := s2.drawn) (t' := tk) I2 hP k23 htab'.2 I2.bare) ⟨⟨_, upd_same, htr⟩, fun b hb => upd_ne hb⟩ k23
  | some cv =>
    refine wpAny_genexprCode_hit hcode (cd.code hPs ht) hf ?_
    exact cont cv s2 H2 I2 ⟨⟨ps, hP, ht⟩, fun _ _ => rfl⟩ fun _ _ _ e => e
end
end GXX
namespace GXX
open PySem PySem.Spec PyProof.Rows L2 GenW GxR
section
variable {X : Cx} {c0 P : Addr} {elt iter tg : Expr} {scope : Scope} {p gpos pos : Pos} {own : List (Str × Nat)} {wi : TI} {g : TG} {te : TE} {k : Nat}
/-- all(elt for tg in iter) -/
theorem pe_genAll (hcalm : X.calm = true) (hr : Room k X.A) (hgl : Gl X "all") (hm : X.mg "all" = none) (TB : TabB X.base X.mg c0 P) (hcode : X.env.code = .ref c0) (hN : X.N.Nodup) (hi : PI X tg iter wi) (ok : BlkOk X.N X.env.scope scope own)
    (noc : ∀ y ∈ scope.names, y.2 ≠ .cell) (hdot : scope.names.lookup (".0" : Str) = some NameKind.local) (hco : scope.isCoroutine = false)
    (hg : ∀ (s : Shared) (H : Hp) (cl : List (Str × Addr)) (C : Addr) (code : Value) (it : Addr) (fp : List Addr), PG (genCx X s H scope cl C code (genCode elt tg iter scope gpos it) fp) tg g)
    (he : ∀ (s : Shared) (H : Hp) (cl : List (Str × Addr)) (C : Addr) (code : Value) (it : Addr) (fp : List Addr), PE (genCx X s H scope cl C code (genCode elt tg iter scope gpos it) fp) elt te)
    (hs : ∀ v, genFold iter X.env v = pure v := by intro _; rfl)
    (he0 : starEach [.GeneratorExp elt [⟨tg, iter, [], 0⟩] scope gpos] X.env = (false, eval (.GeneratorExp elt [⟨tg, iter, [], 0⟩] scope gpos) X.env) :: starEach [] X.env := by rfl) :
    PE X (.Call (.Name "all" p) [.GeneratorExp elt [⟨tg, iter, [], 0⟩] scope gpos] [] pos) (tGen P wi g te (own.map (·.2)) false) := by
  refine ⟨fun pins s σ H Q I h => ?_⟩
  have hb : bootBuiltins "all" = some (.builtin "all") := by decide +kernel
  have hdp := hr.dp
  refine wpAny_Call_Name_kw (ld_blt I hgl hm hb ?_)
  refine PyProof.Rows.callWith_builtin1 ?_ he0 (by rfl)
  rw [he0]
  show wpAny _ _ (spliced ((false, eval (.GeneratorExp elt [⟨tg, iter, [], 0⟩] scope gpos) X.env) :: backTo pos (starEach [] X.env))) _ _ s
  refine Calls.spliced_cons (gen_made hcalm hr.hd (by omega) TB hcode hi ok noc hN hdot hco hg he hs I h fun a g0 n s5 Fn Yd hit hf hno hsl => ?_)
  refine Calls.spliced_nil ?_
  refine call_function_tree F.kind_all F.plain_all F.entry_all (F.args_all1 _) ?_
  unfold Builtin.«all»
  refine wpAny_bind (m := oneArg "all" _) (wpAny_pure ?_)
  refine wpAny_bind (wpAny_pyIter_gen hsl.1 ?_)
  exact wpAny_pure ⟨plainId_quiet F.plain_all_loop _, all_loopJ hr.hd (by omega) hit hf hno n s5 hsl⟩
/-- any(elt for tg in iter) -/
theorem pe_genAny (hcalm : X.calm = true) (hr : Room k X.A) (hgl : Gl X "any") (hm : X.mg "any" = none) (TB : TabB X.base X.mg c0 P) (hcode : X.env.code = .ref c0) (hN : X.N.Nodup) (hi : PI X tg iter wi) (ok : BlkOk X.N X.env.scope scope own)
    (noc : ∀ y ∈ scope.names, y.2 ≠ .cell) (hdot : scope.names.lookup (".0" : Str) = some NameKind.local) (hco : scope.isCoroutine = false)
    (hg : ∀ (s : Shared) (H : Hp) (cl : List (Str × Addr)) (C : Addr) (code : Value) (it : Addr) (fp : List Addr), PG (genCx X s H scope cl C code (genCode elt tg iter scope gpos it) fp) tg g)
    (he : ∀ (s : Shared) (H : Hp) (cl : List (Str × Addr)) (C : Addr) (code : Value) (it : Addr) (fp : List Addr), PE (genCx X s H scope cl C code (genCode elt tg iter scope gpos it) fp) elt te)
    (hs : ∀ v, genFold iter X.env v = pure v := by intro _; rfl)
    (he0 : starEach [.GeneratorExp elt [⟨tg, iter, [], 0⟩] scope gpos] X.env = (false, eval (.GeneratorExp elt [⟨tg, iter, [], 0⟩] scope gpos) X.env) :: starEach [] X.env := by rfl) :
    PE X (.Call (.Name "any" p) [.GeneratorExp elt [⟨tg, iter, [], 0⟩] scope gpos] [] pos) (tGen P wi g te (own.map (·.2)) true) := by
  refine ⟨fun pins s σ H Q I h => ?_⟩
  have hb : bootBuiltins "any" = some (.builtin "any") := by decide +kernel
  have hdp := hr.dp
  refine wpAny_Call_Name_kw (ld_blt I hgl hm hb ?_)
  refine PyProof.Rows.callWith_builtin1 ?_ he0 (by rfl)
  rw [he0]
  show wpAny _ _ (spliced ((false, eval (.GeneratorExp elt [⟨tg, iter, [], 0⟩] scope gpos) X.env) :: backTo pos (starEach [] X.env))) _ _ s
  refine Calls.spliced_cons (gen_made hcalm hr.hd (by omega) TB hcode hi ok noc hN hdot hco hg he hs I h fun a g0 n s5 Fn Yd hit hf hno hsl => ?_)
  refine Calls.spliced_nil ?_
  refine call_function_tree F.kind_any F.plain_any F.entry_any (F.args_any1 _) ?_
  unfold Builtin.«any»
  refine wpAny_bind (m := oneArg "any" _) (wpAny_pure ?_)
  refine wpAny_bind (wpAny_pyIter_gen hsl.1 ?_)
  exact wpAny_pure ⟨plainId_quiet F.plain_any_loop _, any_loopJ hr.hd (by omega) hit hf hno n s5 hsl⟩
end
/-- a word over a tuple, for all(..): every turn's truth, each as its item asks -/
theorem gen_tup {K : PySem.W.Frag} {a : Addr} {xs : List V} {g : TG} {te : TE} {vs : List Nat} {σ : L2.St} {H1 : Hp} {brk : Bool} {Q : VK} (Pv : Nat → Hp → Prop) (h0 : Pv 0 H1) (hl : ∀ i H, i ≤ xs.length → Pv i H → SqT K H a xs)
    (hs : ∀ i x H, xs[i]? = some x → Pv i H → g x (wipe σ vs) H fun σ2 H2 => wipe σ2 vs = wipe σ vs ∧ te σ2 H2 fun y H3 => ∃ b, y = .bl b ∧ (b ≠ brk → Pv (i + 1) H3) ∧ (b = brk → Q (.bl brk) H3)) (hd : ∀ H, Pv xs.length H → Q (.bl (!brk)) H) :
    ∃ W : Nat → Nat → Hp → Prop, (∃ m, W 0 m H1) ∧ ∀ i m H, W i m H → ((Itt K a).stop i H ∧ Q (.bl (!brk)) H) ∨ ((Itt K a).go i H ∧ ∃ Nx : Hp → Prop, (∀ H', Nx H' → ∃ m', m' < m ∧ W (i + 1) m' H') ∧
      ∀ x H', (Itt K a).yld i H x H' → g x (wipe σ vs) H' fun σ2 H2 => wipe σ2 vs = wipe σ vs ∧ te σ2 H2 fun y H3 => ∃ b, y = .bl b ∧ (b ≠ brk → Nx H3) ∧ (b = brk → Q (.bl brk) H3)) := by
  refine ⟨fun i m H => m = xs.length - i ∧ i ≤ xs.length ∧ Pv i H, ⟨xs.length, (Nat.sub_zero _).symm, Nat.zero_le _, h0⟩, fun i m H hW => ?_⟩
  obtain ⟨hm, hi, p⟩ := hW
  subst hm
  have q := hl i H hi p
  by_cases hlt : i < xs.length
  · refine .inr ⟨⟨xs, xs[i], q, List.getElem?_eq_getElem hlt⟩, Pv (i + 1), fun H' p' => ⟨xs.length - (i + 1), by omega, rfl, hlt, p'⟩, fun x H' y => ?_⟩
    obtain ⟨e, y⟩ := y
    subst e
    exact hs i x _ (y xs q) p
  · have e : i = xs.length := by omega
    subst e
    exact .inl ⟨⟨xs, q, Nat.le_refl _⟩, hd H p⟩
/-- .. over a range -/
theorem gen_range {lo : Int} {n : Nat} {g : TG} {te : TE} {vs : List Nat} {σ : L2.St} {H1 : Hp} {brk : Bool} {Q : VK} (Pv : Nat → Hp → Prop) (h0 : Pv 0 H1)
    (hs : ∀ i H, i < n → Pv i H → g (.int (lo + i)) (wipe σ vs) H fun σ2 H2 => wipe σ2 vs = wipe σ vs ∧ te σ2 H2 fun y H3 => ∃ b, y = .bl b ∧ (b ≠ brk → Pv (i + 1) H3) ∧ (b = brk → Q (.bl brk) H3)) (hd : ∀ H, Pv n H → Q (.bl (!brk)) H) :
    ∃ W : Nat → Nat → Hp → Prop, (∃ m, W 0 m H1) ∧ ∀ i m H, W i m H → ((Itr lo n).stop i H ∧ Q (.bl (!brk)) H) ∨ ((Itr lo n).go i H ∧ ∃ Nx : Hp → Prop, (∀ H', Nx H' → ∃ m', m' < m ∧ W (i + 1) m' H') ∧
      ∀ x H', (Itr lo n).yld i H x H' → g x (wipe σ vs) H' fun σ2 H2 => wipe σ2 vs = wipe σ vs ∧ te σ2 H2 fun y H3 => ∃ b, y = .bl b ∧ (b ≠ brk → Nx H3) ∧ (b = brk → Q (.bl brk) H3)) := by
  refine ⟨fun i m H => m = n - i ∧ i ≤ n ∧ Pv i H, ⟨n, (Nat.sub_zero _).symm, Nat.zero_le _, h0⟩, fun i m H hW => ?_⟩
  obtain ⟨hm, hi, p⟩ := hW
  subst hm
  by_cases hlt : i < n
  · refine .inr ⟨hlt, Pv (i + 1), fun H' p' => ⟨n - (i + 1), by omega, rfl, hlt, p'⟩, fun x H' y => ?_⟩
    obtain ⟨e, y⟩ := y
    subst e y
    exact hs i _ hlt p
  · have e : i = n := by omega
    subst e
    exact .inl ⟨Nat.le_refl _, hd H p⟩
end GXX
namespace GXX
open PySem PySem.Spec PyProof.Rows L2 GenW GxR
/-- a def whose code object's place is known -/
structure FunC (K : PySem.W.Frag) (x qual : Str) (st : Stmt) (f : Addr) (fd : FuncData) (c : Addr) : Prop where
  ex : ∃ (oc : Value) (od : Option Addr) (kV doc pm : Value) (an : Option Addr) (ct : Value) (osl : Array (Option Value)),
    fd = PySem.W.fnOf x qual (defArgs st) (defBody st) (defScope st) .none kV doc pm an (.ref c) ct ∧ K.lookup f = some ⟨oc, od, .func fd, osl⟩ ∧ PySem.W.codeIn K (.ref c) qual = true
section
variable {P : Program} {w : World} {K : PySem.W.Frag} {mg : Str → Option Value} {base : Heap}
theorem FunC.ok {x qual : Str} {st : Stmt} {f c : Addr} {fd : FuncData} {N ps : List Str} {k : Nat} {sp : Sp} (F : FunC K x qual st f fd c) (S : FnScope N ps (defScope st)) (len : ∀ vs H Q E, sp vs H Q E → vs.length = ps.length)
    (hbody : ∀ (A : Around) (outer : List Env) (s : Shared) (H : Hp) (vs : List V) (Q : VK) (E : XK), Room k (A.deeper (envOfC qual (defScope st) s.heap.objs.size f (.ref c))) → sp vs H Q E →
      ∃ t, PSs (cxOf CX0 P w K mg base N qual (defScope st) f (.ref c) A outer s H E).nox (defBody st) t ∧ t { nx := fun _ H' => Q .non H', rt := Q } (start N vs) H) : FnOk P w K mg base CX0 (k + 1) f fd ps sp := by
  obtain ⟨oc, od, kV, doc, pm, an, ct, osl, e, lk, hcd⟩ := F.ex
  subst e
  refine fn_of lk hcd S len fun A outer s H vs Q E hr hsp => ?_
  obtain ⟨t, h1, h2⟩ := hbody A outer s H vs Q E hr hsp
  exact ⟨t, h1.nox, h2⟩
end
/-- the defs of the top with their code objects, whose tables are empty -/
def DefTabs (q : Program) (mg : Str → Option Value) (h : Heap) : Prop := ∀ d ∈ PyProof.Rows.recsOf q, ∃ a o fd c P, mg d.name = some (.ref a) ∧ h.get? a = some o ∧ o.data = .func fd ∧ fd.code = .ref c ∧ h.IsCode c P #[] ∧ h.TableAt c P #[]
theorem lookup_mem {α : Type} {a : Nat} {x : α} : ∀ {l : List (Nat × α)}, l.lookup a = some x → (a, x) ∈ l
  | (b, y) :: r, h => by
    rw [List.lookup_cons] at h
    by_cases e : a = b
    · rw [beq_iff_eq.mpr e] at h
      cases h
      rw [e]
      exact List.mem_cons_self
    · rw [beq_eq_false_iff_ne.mpr e] at h
      exact List.mem_cons_of_mem _ (lookup_mem h)
/-- no empty table stands in the written part -/
def noTab (K : PySem.W.Frag) : Bool := K.all fun q => match q.2.data with
  | .fields vs => vs.size != 0
  | _ => true
theorem noTab_lookup {K : PySem.W.Frag} {h : Heap} {P : Addr} (X : K.In h) (n : noTab K = true) (hp : h.get? P = some { cls := .none, data := .fields #[] }) : K.lookup P = none := by
  cases e : K.lookup P with
  | none => rfl
  | some o =>
    have e1 := X P o e
    rw [hp] at e1
    cases e1
    have m : (P, ({ cls := .none, data := .fields #[] } : Obj)) ∈ K := lookup_mem e
    have := List.all_eq_true.mp n _ m
    simp at this
/-- one def's code and table -/
theorem tab_one {q : Program} {K : PySem.W.Frag} {mg : Str → Option Value} {h : Heap} {x : Str} {f : Addr} {o : Obj} {fd : FuncData} (D : DefTabs q mg h) (X : K.In h) (n : noTab K = true) (hrec : ((PyProof.Rows.recsOf q).any fun e => e.name == x) = true) (hm : mg x = some (.ref f))
    (l : K.lookup f = some o) (hd : o.data = .func fd) : ∃ c P, fd.code = .ref c ∧ h.get? P = some { cls := .none, data := .fields #[] } ∧ K.lookup P = none ∧ PySem.W.CodeHd h c P := by
  obtain ⟨d, hd1, hd2⟩ := List.any_eq_true.mp hrec
  have hd2 : d.name = x := beq_iff_eq.mp hd2
  obtain ⟨a, o2, fd2, c, P, h1, h2, h3, h4, h5, h6⟩ := D d hd1
  rw [hd2, hm] at h1
  cases h1
  have h7 := X _ _ l
  rw [h7] at h2
  cases h2
  rw [hd] at h3
  cases h3
  exact ⟨c, P, h4, h6.2, noTab_lookup X n h6.2, PySem.W.CodeHd.of h5 h6⟩
theorem walk_tabs {l : PySem.W.OpenLaw} {n k : Nat} {q : Program} {loose : List Str} {XP : (Str → Option Value) → Heap → Prop} {YP : World → Heap → Prop} {d : DefRec} {K : Params → PySem.W.Frag} {CX : World → CXT} {x : Str}
    (hn : l.most = some n) (hn2 : n ≤ sizeLine) (hdf : d.params.defaults = []) (hr : Room k callerA) (hY : ∀ (w : World) (h : Heap), YP w h → (K w.params).In h)
    (F : ∀ (w : World) (mg : Str → Option Value) (fa : Addr) (h : Heap), YP w h → (K w.params).In h → h.Ns mainGlobals mg → mg d.name = some (.ref fa) → DefTabs q mg h → LamX.LawAtS l w (K w.params) (CX w) k n x mg fa h)
    (hCX : ∀ (w : World) (H : Hp) (s : Shared) (e : Value) (s' : Shared), CX w [] H s (fun _ _ _ => False) e s' → False) :
    PySem.W.WalkO q loose XP YP l.row.toRowW d [] (fun f vs => PySem.call f vs) := by
  refine Att.attach_callB hn hdf fun w s₀ s1 mg mb fa o pm cd doc a vs ns G Y ho hd hcd hmg hobj hints hlen hbits hg => ?_
  obtain ⟨fd, cs, sp, t1, t2, t3, t4, t5, t6⟩ := F w mg fa _ Y (hY w _ Y) G.T.g hmg G.T.tab
  exact LamX.law_callTs (hY w _ Y) G.T.g G.T.b G.T.builtins G.T.nolimit hg t1 t2 t3 G.T.bmain hobj hints (Nat.le_trans hlen hn2) hr t6 t4 (fun H hH hS => t5 H a ns hlen hbits hH hS) fun H e s' => hCX w H s1 e s'
end GXX
/-! ## ranges kept in a name; a datum in a list of data -/
namespace GXX
open PySem PySem.Spec PyProof.Rows L2
section
variable {X : Cx} {tg : Expr}
theorem cr_range1 : CallR X (.type "range") (fun vs H Q => ∃ j, vs = [V.int j] ∧ ∀ p, H p = none → Q (.ref p) (upd H p (.rng 0 j))) := by
  intro pins s σ H vs us Q I r h
  obtain ⟨j, rfl, q⟩ := h
  cases r with
  | cons r rr =>
    cases rr
    obtain ⟨t, rfl⟩ := r
    refine call_range_1 ⟨.ref s.heap.objs.size, upd H s.heap.objs.size (.rng 0 j), I.laid (t' := s.toks + 1 + 1) (fun b o e => Heap.get?_push_of_some _ e) (Nat.le_refl _) ?_, rfl, q _ (I.hok.fresh (Nat.le_refl _))⟩
    exact ⟨_, t, _, Heap.get?_push_size _ rfl⟩
/-- over a range object that stands -/
def iRngV (tl : TE) : TI := fun σ H R => tl σ H fun x H1 => ∃ a lo hi, x = .ref a ∧ H1 a = some (.rng lo hi) ∧ (-(2 ^ 62) ≤ lo ∧ lo < 2 ^ 62 ∧ -(2 ^ 62) ≤ hi ∧ hi < 2 ^ 62) ∧ R (Itr lo (hi - lo).toNat) H1
theorem pi_rngV {l : Expr} {tl : TE} (hl : PE X l tl) : PI X tg l (iRngV tl) := by
  refine ⟨fun pins s σ H R I h => ?_⟩
  refine thn (hl.run pins s σ H _ I h) fun v s1 ⟨x, H1, I1, r1, q1⟩ => ?_
  obtain ⟨a, lo, hi, e, hq, ⟨h1, h2, h3, h4⟩, q⟩ := q1
  subst e
  cases r1
  obtain ⟨t, u, v, ho⟩ := I1.hok a _ hq
  refine wpAny_pyIter_range (show IsRange s1.heap a lo hi 1 t u v from ho) (small_one h1 h2 h3 h4) ?_
  refine ⟨s1.heap.objs.size, [s1.heap.objs.size], _, _, H1, rfl, I1.kept (t' := s1.toks) fun b o e => Heap.get?_push_of_some _ e, turn_range _ lo (hi - lo).toNat, ?_, fun b hb => ?_, q⟩
  · have e1 : lo + ((0 : Nat) : Int) * 1 = lo := by simp
    have e2 : (((hi - lo).toNat : Nat) : Int) - ((0 : Nat) : Int) = Builtin.Range.rangeSize lo hi 1 := by rw [rangeSize_one]; split <;> omega
    show IsRangeIter _ _ (lo + ((0 : Nat) : Int) * 1) ((((hi - lo).toNat : Nat) : Int) - ((0 : Nat) : Int)) 1
    rw [e1, e2]
    exact Heap.get?_push_size _ rfl
  · have e : b = s1.heap.objs.size := by simpa using hb
    subst e
    exact I1.fpOk (Nat.le_refl _) (I1.hok.fresh (Nat.le_refl _))
end
end GXX
/-! ## t[::-1], t a tuple -/
namespace GXX
open PySem PySem.Spec PyProof.Rows L2
section
variable {prog : Program} {w : World} {A : Around} {E : Value → Shared → Prop} {s : Shared}
theorem fm_congr {α β : Type} {f g : α → Option β} : ∀ {l : List α}, (∀ a ∈ l, f a = g a) → l.filterMap f = l.filterMap g
  | [], _ => rfl
  | a :: l, h => by
    rw [List.filterMap_cons, List.filterMap_cons, h a List.mem_cons_self, fm_congr fun b hb => h b (List.mem_cons_of_mem _ hb)]
theorem rev_pick (xs : Array Value) : ((List.range xs.size).filterMap fun (m : Nat) => xs[(((xs.size : Int) - 1) + (m : Int) * -1).toNat]?).toArray = xs.toList.reverse.toArray := by
  have h := PySem.W.krv_pick xs
  unfold slicePick at h
  rw [PySem.W.krv_bounds] at h
  have h2 : ((sliceRange ((xs.size : Int) - 1) (-1) (-1)).filterMap (xs[·]?)).toArray = xs.toList.reverse.toArray := h
  rw [PySem.W.krv_sliceRange, List.filterMap_map] at h2
  rw [← h2]
  congr 1
  refine fm_congr fun k hk => ?_
  have := List.mem_range.mp hk
  show xs[(((xs.size : Int) - 1) + (k : Int) * -1).toNat]? = xs[xs.size - 1 - k]?
  congr 1
  omega
theorem adjust_rev (n : Nat) : Builtin.Slice.sliceAdjust none none (-1) (n : Int) = ((n : Int) - 1, -1) := by
  unfold Builtin.Slice.sliceAdjust
  simp
theorem places_rev (n : Nat) : Builtin.Slice.slicePlaces ((n : Int) - 1) (-1) (-1) = n := by
  unfold Builtin.Slice.slicePlaces
  have h1 : ¬ ((-1 : Int) > 0) := by decide
  simp only [h1, if_false]
  by_cases h : (n : Int) - 1 > -1
  · rw [if_pos h, show (- -1 : Int) = 1 by decide, Int.ediv_one]
    omega
  · rw [if_neg h]
    omega
theorem sliceApplied_rev {sl : Addr} {vl vu vs : Value} {n : Nat} {Q : Int × Int × Nat → Shared → Prop} (hs : s.heap.IsSliceOf sl vl vu vs) (pl : IsPart vl none) (pu : IsPart vu none) (ps : IsPart vs (some (-1)))
    (h : Q ((n : Int) - 1, -1, n) s) : wpAny (model prog w) A (Builtin.Slice.sliceApplied (.ref sl) (pure (n : Int))) Q E s := by
  obtain ⟨os, hos, hcs, hds⟩ := id hs
  unfold Builtin.Slice.sliceApplied Builtin.Slice.sliceFields
  refine wpAny_bind (wpAny_bind (wpAny_field hos hds (x := vl) rfl (wpAny_bind (wpAny_field hos hds (x := vu) rfl (wpAny_bind (wpAny_field hos hds (x := vs) rfl (wpAny_pure ?_)))))))
  refine wpAny_bind (HT.slicePart_ ps ?_)
  show wpAny _ _ (if ((-1 : Int) == 0) = true then _ else _) _ _ s
  rw [if_neg (by decide)]
  refine wpAny_bind (HT.slicePart_ pl (wpAny_bind (HT.slicePart_ pu (wpAny_bind (wpAny_pure ?_)))))
  show wpAny _ _ (match Builtin.Slice.sliceAdjust none none (-1) (n : Int) with | (lo, hi) => pure (lo, (-1 : Int), Builtin.Slice.slicePlaces lo hi (-1))) _ _ s
  rw [adjust_rev n]
  show wpAny _ _ (pure ((n : Int) - 1, (-1 : Int), Builtin.Slice.slicePlaces ((n : Int) - 1) (-1) (-1))) _ _ s
  rw [places_rev]
  exact wpAny_pure h
theorem getItem_tuple_rev {t sl : Addr} {items : Array Value} {vl vu vs : Value} {Q : Value → Shared → Prop} (ht : IsTup s.heap t items) (hs : s.heap.IsSliceOf sl vl vu vs) (pl : IsPart vl none) (pu : IsPart vu none) (ps : IsPart vs (some (-1)))
    (h : Q (.ref s.heap.objs.size) { s with heap := s.heap.push { cls := .type "tuple", data := .seq items.toList.reverse.toArray } })
    (hsz : items.size ≤ sizeLine) : wpAny (model prog w) A (getItem (.ref t) (.ref sl)) Q E s := by
  have htake : sizeOk (.seq items.toList.reverse.toArray) := by
    show items.toList.reverse.toArray.size ≤ sizeLine
    rw [List.size_toArray, List.length_reverse, Array.length_toList]
    omega
  obtain ⟨os, hos, hcs, hds⟩ := id hs
  have hTs : s.TypeIs (.ref sl) "slice" := ⟨os, hos, hcs⟩
  unfold getItem
  try with_reducible refine wpAny_holding ?_
  first | refine wpAny_bind (wpAny_pure ?_) | skip
  refine wpAny_bind (wpAny_sequenceKey ht.typeIs (by decide) ?_)
  refine wpAny_bind (wpAny_callSpecial?_slot (name := Str.ofString "__getitem__") ht.typeIs PyProof.Rows.slot_tuple_getitem
    (wpAny_call_entry PyProof.Rows.slot_tuple_getitem ht.typeIs entry_tuple_getitem ?_ (args_tuple_getitem _ _)))
  show wpAny _ _ (Builtin.Tuple.tupleItemsOf (.ref t) >>= _) _ _ s
  refine wpAny_bind (tupleItemsOf_ ht ?_)
  refine wpAny_bind (wpAny_typeOf hTs ?_)
  rw [if_pos (by decide)]
  refine wpAny_bind (sliceApplied_rev hs pl pu ps ?_)
  show wpAny _ _ (if (((items.size : Int) - 1) == 0 && (-1 : Int) == 1 && items.size == items.size) = true then _ else _) _ _ s
  rw [if_neg (by simp), rev_pick]
  first
    | exact wpAny_bind (m := Builtin.Tuple.tupleExact _) (wpAny_newObj_type (wpAny_pure ⟨_, rfl, wpAny_pure h⟩) htake)
    | exact wpAny_bind (m := Builtin.Tuple.tupleExact _) (wpAny_newObj_type (wpAny_bind (wpAny_pure (wpAny_pure ⟨_, rfl, wpAny_pure h⟩))) htake)
    | exact wpAny_bind (wpAny_bind (m := Builtin.Tuple.tupleExact _) (wpAny_newObj_type (wpAny_pure (wpAny_pure ⟨_, rfl, wpAny_pure h⟩)) htake))
    | exact wpAny_bind (wpAny_bind (m := Builtin.Tuple.tupleExact _) (wpAny_newObj_type (wpAny_pure ⟨_, rfl, wpAny_pure h⟩) htake))
end
section
variable {X : Cx}
def tRevT (K : PySem.W.Frag) (te : TE) : TE := fun σ H Q => te σ H fun x H1 => ∃ a xs, x = .ref a ∧ SqT K H1 a xs ∧ ∀ p, H1 p = none → Q (.ref p) (upd H1 p (.tup xs.reverse))
theorem pe_revT {e : Expr} {te : TE} {k : Nat} {p1 p2 p3 pos : Pos} (he : PE X e te) : PE X (.Subscript e (.Slice none none (some (.UnaryOp .USub (.Constant (.int 1) k p1) p2)) p3) pos) (tRevT X.K te) := by
  refine ⟨fun pins s σ H Q I h => ?_⟩
  refine Subscript_ (thn (he.run pins s σ H _ I h) fun v s1 ⟨x, H1, I1, r1, q1⟩ => ?_)
  obtain ⟨a, xs, ex, hx, q⟩ := q1
  subst ex
  cases r1
  have hst : PO X (some (.UnaryOp .USub (.Constant (.int 1) k p1) p2)) (tPart (tUn (rU fun i => .int (-i)) (tC (.int 1)))) := po_some (pe_un un_neg pe_int)
  refine wpAny_Slice (thn (po_none.run pins s1 σ H1 (fun o H2 => o = none ∧ H2 = H1) I1 ⟨rfl, rfl⟩) fun vl s2 ⟨l, H2, I2, pl, el, e2⟩ => ?_)
  subst el e2
  refine thn (po_none.run pins s2 σ H2 (fun o H3 => o = none ∧ H3 = H2) I2 ⟨rfl, rfl⟩) fun vu s3 ⟨u, H3, I3, pu, eu, e3⟩ => ?_
  subst eu e3
  refine thn (hst.run pins s3 σ H3 (fun o H4 => o = some (-1) ∧ H4 = H3) I3 ⟨1, rfl, -1, rfl, rfl, rfl⟩) fun vs s4 ⟨o, H4, I4, ps, eo, e4⟩ => ?_
  subst eo e4
  have I5 : Inv X pins σ H4 { s4 with heap := s4.heap.push { cls := .type "slice", data := .fields #[vl, vu, vs] } } := I4.kept (t' := s4.toks) fun b ob q => Heap.get?_push_of_some _ q
  obtain ⟨its, r, ht, hz⟩ := I5.tuple hx
  have hlen := r.length
  show wpAny (model X.prog X.w) X.A (subscriptTail e (.Slice none none (some (.UnaryOp .USub (.Constant (.int 1) k p1) p2)) p3) (.ref a) (.ref s4.heap.objs.size)) (EP X pins σ Q) X.xe { s4 with heap := s4.heap.push { cls := .type "slice", data := .fields #[vl, vu, vs] } }
  refine tail_any (ops := [.ref a, .ref s4.heap.objs.size]) ht.typeIs (PyProof.Rows.slot_tuple_getitem.lookup) ?_ (by with_unfolding_all rfl)
  refine getItem_tuple_rev ht (Heap.IsSliceOf.new _ vl vu vs) pl pu ps ?_ (by rw [List.size_toArray]; omega)
  refine ⟨.ref _, _, I5.laid (t' := s4.toks) (o := .tup xs.reverse) (fun b ob q => Heap.get?_push_of_some _ q) (Nat.le_refl _) ?_, rfl, q _ (I5.hok.fresh (Nat.le_refl _))⟩
  exact ⟨by rw [List.length_reverse]; exact hz, _, r.reverse, IsTup.new _ _⟩
end
end GXX
namespace V
open PySem L2
open C8 (pss_cut)
section
variable {X : Cx}
theorem kq_ix (K : PySem.W.Frag) (h : X.K = K) : IxR X (rIx K) := h ▸ ix_seq
theorem kq_ixL (K : PySem.W.Frag) (h : X.K = K) : IxR X (rIxL K) := h ▸ ix_list
theorem kq_ixT (K : PySem.W.Frag) (h : X.K = K) : IxR X (rIxT K) := h ▸ ix_tup
theorem kq_in (K : PySem.W.Frag) (h : X.K = K) : OpR X (compareOp .In) (rIn K false) := h ▸ op_in_seq
theorem kq_notIn (K : PySem.W.Frag) (h : X.K = K) : OpR X (compareOp .NotIn) (rIn K true) := h ▸ op_notIn_seq
theorem kq_len (K : PySem.W.Frag) (h : X.K = K) : CallR X (.builtin "len") (fun xs H Q => ∃ p ys, xs = [.ref p] ∧ (SqL K H p ys ∨ SqT K H p ys) ∧ Q (.int ys.length) H) := h ▸ call_len_seq
theorem kq_slA (K : PySem.W.Frag) (h : X.K = K) : SlR X (rSlA K) := h ▸ sl_tupA
theorem kq_catA (K : PySem.W.Frag) (h : X.K = K) : OpR X (binaryOp .Add) (rCatA K) := h ▸ op_catA
theorem kq_isi (K : PySem.W.Frag) (h : X.K = K) : CallR X (.builtin "isinstance") (rIsi K) := h ▸ call_isi
theorem kq_eqD (K : PySem.W.Frag) (h : X.K = K) (hu : X.A.units + 64 < cLine) : OpR X (compareOp .Eq) (rEqD K) := h ▸ op_eqD hu
theorem kq_neD (K : PySem.W.Frag) (h : X.K = K) (hu : X.A.units + 64 < cLine) : OpR X (compareOp .NotEq) (rNeD K) := h ▸ op_neD hu
end
/-! ### data -/
section
variable {K : PySem.W.Frag} {H H' : Hp} {v : V} {d : PyData}
def tyn : PyData → String
  | .none => "NoneType" | .bool _ => "bool" | .int _ => "int" | .str _ => "str" | .list _ => "list" | .tuple _ => "tuple" | .dict _ => "dict"
theorem tyxL {a : Addr} {xs : List V} (h : SqL K H a xs) : TyX K H (.ref a) (.type "list") := by
  rcases h with (h | ⟨o, h⟩) | ⟨o, its, n, h, c, _⟩
  · exact .base (.lst h)
  · exact .base (.frz h)
  · exact .kList h c
theorem tyxT {a : Addr} {xs : List V} (h : SqT K H a xs) : TyX K H (.ref a) (.type "tuple") := by
  rcases h with (h | ⟨o, h⟩) | ⟨o, its, n, h, c, _⟩
  · exact .base (.tup h)
  · exact .fTuple h
  · exact .kTuple h c
theorem tyx (h : Dp K H v d) : TyX K H v (.type (tyn d)) := by
  cases h with
  | non => exact .base .non
  | bl b => exact .base (.bl b)
  | int i => exact .base (.int i)
  | str x => exact .base (.str x)
  | lst h _ => exact tyxL h
  | tup h _ => exact tyxT h
theorem shS (x : Str) (h : PyData.strOk x = true := by decide +kernel) : SeqAt.shaped (.str x) = true := by
  simp [SeqAt.shaped, PyData.canLay0, PyData.depth, h]
theorem shI (x : Int) : SeqAt.shaped (.int x) = true := by first | rfl | simp [SeqAt.shaped, PyData.canLay0, PyData.depth]
theorem shB (x : Bool) : SeqAt.shaped (.bool x) = true := by first | rfl | simp [SeqAt.shaped, PyData.canLay0, PyData.depth]
theorem shN : SeqAt.shaped .none = true := by first | rfl | simp [SeqAt.shaped, PyData.canLay0, PyData.depth]
def isI : PyData → Bool | .int _ => true | .bool _ => true | _ => false
def isB : PyData → Bool | .bool _ => true | _ => false
def isS : PyData → Bool | .str _ => true | _ => false
def isT : PyData → Bool | .tuple _ => true | _ => false
def isL : PyData → Bool | .list _ => true | _ => false
theorem kitI : ∀ d : PyData, PySem.W.kitOne K (.type (tyn d)) (.type "int") = some (isI d)
  | .none => kit_ty (a := "NoneType") (b := "int") (r := false) (by decide +kernel)
  | .bool _ => kit_ty (a := "bool") (b := "int") (r := true) (by decide +kernel)
  | .int _ => kit_ty (a := "int") (b := "int") (r := true) (by decide +kernel)
  | .str _ => kit_ty (a := "str") (b := "int") (r := false) (by decide +kernel)
  | .list _ => kit_ty (a := "list") (b := "int") (r := false) (by decide +kernel)
  | .tuple _ => kit_ty (a := "tuple") (b := "int") (r := false) (by decide +kernel)
  | .dict _ => kit_ty (a := "dict") (b := "int") (r := false) (by decide +kernel)
theorem kitBo : ∀ d : PyData, PySem.W.kitOne K (.type (tyn d)) (.type "bool") = some (isB d)
  | .none => kit_ty (a := "NoneType") (b := "bool") (r := false) (by decide +kernel)
  | .bool _ => kit_ty (a := "bool") (b := "bool") (r := true) (by decide +kernel)
  | .int _ => kit_ty (a := "int") (b := "bool") (r := false) (by decide +kernel)
  | .str _ => kit_ty (a := "str") (b := "bool") (r := false) (by decide +kernel)
  | .list _ => kit_ty (a := "list") (b := "bool") (r := false) (by decide +kernel)
  | .tuple _ => kit_ty (a := "tuple") (b := "bool") (r := false) (by decide +kernel)
  | .dict _ => kit_ty (a := "dict") (b := "bool") (r := false) (by decide +kernel)
theorem kitS : ∀ d : PyData, PySem.W.kitOne K (.type (tyn d)) (.type "str") = some (isS d)
  | .none => kit_ty (a := "NoneType") (b := "str") (r := false) (by decide +kernel)
  | .bool _ => kit_ty (a := "bool") (b := "str") (r := false) (by decide +kernel)
  | .int _ => kit_ty (a := "int") (b := "str") (r := false) (by decide +kernel)
  | .str _ => kit_ty (a := "str") (b := "str") (r := true) (by decide +kernel)
  | .list _ => kit_ty (a := "list") (b := "str") (r := false) (by decide +kernel)
  | .tuple _ => kit_ty (a := "tuple") (b := "str") (r := false) (by decide +kernel)
  | .dict _ => kit_ty (a := "dict") (b := "str") (r := false) (by decide +kernel)
theorem kitT : ∀ d : PyData, PySem.W.kitOne K (.type (tyn d)) (.type "tuple") = some (isT d)
  | .none => kit_ty (a := "NoneType") (b := "tuple") (r := false) (by decide +kernel)
  | .bool _ => kit_ty (a := "bool") (b := "tuple") (r := false) (by decide +kernel)
  | .int _ => kit_ty (a := "int") (b := "tuple") (r := false) (by decide +kernel)
  | .str _ => kit_ty (a := "str") (b := "tuple") (r := false) (by decide +kernel)
  | .list _ => kit_ty (a := "list") (b := "tuple") (r := false) (by decide +kernel)
  | .tuple _ => kit_ty (a := "tuple") (b := "tuple") (r := true) (by decide +kernel)
  | .dict _ => kit_ty (a := "dict") (b := "tuple") (r := false) (by decide +kernel)
theorem kitL : ∀ d : PyData, PySem.W.kitOne K (.type (tyn d)) (.type "list") = some (isL d)
  | .none => kit_ty (a := "NoneType") (b := "list") (r := false) (by decide +kernel)
  | .bool _ => kit_ty (a := "bool") (b := "list") (r := false) (by decide +kernel)
  | .int _ => kit_ty (a := "int") (b := "list") (r := false) (by decide +kernel)
  | .str _ => kit_ty (a := "str") (b := "list") (r := false) (by decide +kernel)
  | .list _ => kit_ty (a := "list") (b := "list") (r := true) (by decide +kernel)
  | .tuple _ => kit_ty (a := "tuple") (b := "list") (r := false) (by decide +kernel)
  | .dict _ => kit_ty (a := "dict") (b := "list") (r := false) (by decide +kernel)
def isInt (d : PyData) (lo hi : Int) : Bool := match d with | .int i => decide (lo ≤ i) && decide (i ≤ hi) | _ => false
end
/-! ### heaps, tuples -/
section
variable {K : PySem.W.Frag} {H H' : Hp} {v : V} {d : PyData}
/-- all that was tracked is as it was, tables of code may have grown -/
def Same (H H' : Hp) : Prop := (∀ b o, H b = some o → (∀ ps, o ≠ .tbl ps) → H' b = some o) ∧ ∀ b, GxR.TabG H b → GxR.TabG H' b
theorem Same.refl (H : Hp) : Same H H := ⟨fun _ _ h _ => h, fun _ h => h⟩
theorem Same.trans {H H1 H2 : Hp} (a : Same H H1) (b : Same H1 H2) : Same H H2 := ⟨fun c o h n => b.1 c o (a.1 c o h n) n, fun c h => b.2 c (a.2 c h)⟩
theorem Same.at {H H' : Hp} {b : Addr} {o : HO} (s : Same H H') (h : H b = some o) (n : ∀ ps, o ≠ .tbl ps := by intro ps z; cases z) : H' b = some o := s.1 b o h n
theorem Same.seq {K : PySem.W.Frag} {H H' : Hp} {a : Addr} {xs : List V} (e : Same H H') (h : SqL K H a xs) : SqL K H' a xs := by
  rcases h with (h | ⟨o, h⟩) | h
  · exact .inl (.inl (e.at h))
  · exact .inl (.inr ⟨o, e.at h⟩)
  · exact .inr h
theorem Same.tabbed {P : Addr} {H H' : Hp} (h : GxR.TabG H P) (t : GxR.Tabbed P H H') : Same H H' := by
  refine ⟨fun b o e n => ?_, fun b hb => ?_⟩
  · obtain ⟨ps, hp, _⟩ := h
    rw [t.2 b (fun z => by rw [z, hp] at e; exact n ps (Option.some.inj e).symm)]
    exact e
  · by_cases z : b = P
    · rw [z]
      exact t.1
    · obtain ⟨ps, hp, ht⟩ := hb
      exact ⟨ps, by rw [t.2 b z]; exact hp, ht⟩
/-- a new place -/
theorem same_fresh {H H1 : Hp} {p : Addr} {o : HO} (s : Same H H1) (h : H p = none) : Same H (upd H1 p o) := by
  refine ⟨fun b x e n => ?_, fun b hb => ?_⟩
  · rw [upd_ne (ne_of_none e h)]
    exact s.1 b x e n
  · obtain ⟨ps, hp, ht⟩ := hb
    obtain ⟨ps2, h2, t2⟩ := s.2 b ⟨ps, hp, ht⟩
    exact ⟨ps2, by rw [upd_ne (ne_of_none hp h)]; exact h2, t2⟩
theorem same_upd {p : Addr} {o : HO} (h : H p = none) : Same H (upd H p o) := same_fresh (Same.refl H) h
theorem Same.sqT {a : Addr} {xs : List V} (e : Same H H') (h : SqT K H a xs) : SqT K H' a xs := by
  rcases h with (h | ⟨o, h⟩) | h
  · exact .inl (.inl (e.at h))
  · exact .inl (.inr ⟨o, e.at h⟩)
  · exact .inr h
theorem DpAll.length : ∀ {xs : List V} {ds : List PyData}, DpAll K H xs ds → xs.length = ds.length
  | _, _, .nil => rfl
  | _, _, .cons _ t => by
    rw [List.length_cons, List.length_cons, DpAll.length t]
theorem DpAll.uncons {n : Nat} : ∀ {xs : List V} {ds : List PyData}, DpAll K H xs ds → xs.length = n + 1 → ∃ x xs' d ds', xs = x :: xs' ∧ ds = d :: ds' ∧ Dp K H x d ∧ DpAll K H xs' ds' ∧ xs'.length = n
  | _, _, .nil, h => nomatch h
  | _, _, .cons h t, e => ⟨_, _, _, _, rfl, rfl, h, t, Nat.succ.inj e⟩
theorem DpAll.empty {xs : List V} {ds : List PyData} (h : DpAll K H xs ds) (e : xs.length = 0) : xs = [] ∧ ds = [] := by
  cases h with
  | nil => exact ⟨rfl, rfl⟩
  | cons _ _ => cases e
mutual
theorem keepD (e : Same H H') : ∀ (d : PyData) (v : V), Dp K H v d → Dp K H' v d
  | .none, _, .non => .non
  | .bool _, _, .bl b => .bl b
  | .int _, _, .int i => .int i
  | .str _, _, .str x => .str x
  | .list ds, _, .lst h a => .lst (e.seq h) (keepDs e ds _ a)
  | .tuple ds, _, .tup h a => .tup (Same.sqT e h) (keepDs e ds _ a)
theorem keepDs (e : Same H H') : ∀ (ds : List PyData) (vs : List V), DpAll K H vs ds → DpAll K H' vs ds
  | [], _, .nil => .nil
  | d :: ds, _, .cons h t => .cons (keepD e d _ h) (keepDs e ds _ t)
end
theorem slA_ok {a : Addr} {xs : List V} {lo hi : Option Int} {Q : VK} (h : SqT K H a xs) (q : ∀ t H', Same H H' → SqT K H' t (cutV xs lo hi) → Q (.ref t) H') : rSlA K (.ref a) lo hi H Q := by
  refine ⟨a, xs, rfl, h, fun e => q _ _ (Same.refl _) ?_, fun _ p np => q _ _ (same_upd np) (.of upd_same)⟩
  have e2 : cutV xs lo hi = xs := by
    unfold cutV
    rw [e.1, e.2]
    simp
  rw [e2]
  exact h
theorem catA_ok {a b : Addr} {xs ys : List V} {Q : VK} (h1 : SqT K H a xs) (h2 : SqT K H b ys) (hl : xs.length + ys.length ≤ sizeLine) (q : ∀ t H', Same H H' → SqT K H' t (xs ++ ys) → Q (.ref t) H') : rCatA K (.ref a) (.ref b) H Q := by
  refine ⟨a, b, xs, ys, rfl, rfl, h1, h2, hl, fun e => q _ _ (Same.refl _) ?_, fun _ e => q _ _ (Same.refl _) ?_, fun _ _ p np => q _ _ (same_upd np) (.of upd_same)⟩
  · rw [e]
    exact h2
  · rw [e, List.append_nil]
    exact h1
theorem cut_from {xs : List V} {k : Nat} (hk : k ≤ xs.length) : cutV xs (some (k : Int)) none = xs.drop k := by
  unfold cutV
  rw [HT.sIx_nat, HT.sIx_none, Nat.min_eq_left hk]
  exact List.take_of_length_le (by rw [List.length_drop]; omega)
theorem cut_to {xs : List V} {k : Nat} (hk : k ≤ xs.length) : cutV xs none (some (k : Int)) = xs.take k := by
  unfold cutV
  rw [HT.sIx_nat, HT.sIx_none, Nat.min_eq_left hk]
  simp
theorem small {n : Nat} (h : n ≤ 1000) : n ≤ sizeLine := Nat.le_of_lt (small1000 h)
end
section
variable {K : PySem.W.Frag}
theorem DpAll.get {H : Hp} : ∀ {xs : List V} {ds : List PyData} {i : Nat} {d : PyData}, DpAll K H xs ds → ds[i]? = some d → ∃ x, xs[i]? = some x ∧ Dp K H x d
  | _, _, _, _, .nil, e => nomatch e
  | _, _, 0, _, .cons h _, e => by
    have e1 := Option.some.inj e
    subst e1
    exact ⟨_, rfl, h⟩
  | _, _, i + 1, _, .cons _ t, e => by
    obtain ⟨x, h1, h2⟩ := DpAll.get (i := i) t (by simpa using e)
    exact ⟨x, by simpa using h1, h2⟩
/-- data of at most so many levels, all lists and tuples short -/
def dep : Nat → PyData → Bool
  | 0, _ => false
  | n + 1, .list ds => decide (ds.length ≤ 1000) && ds.all (dep n)
  | n + 1, .tuple ds => decide (ds.length ≤ 1000) && ds.all (dep n)
  | _ + 1, .dict _ => false
  | _ + 1, _ => true
theorem ixL {H : Hp} {a : Addr} {xs : List V} {i : Int} {v : V} {Q : VK} (h : SqL K H a xs) (e : atI xs i = some v) (q : Q v H) : rIx K (.ref a) (.int i) H Q := .inl ⟨a, xs, i, v, rfl, rfl, h, e, q⟩
theorem ixT {H : Hp} {a : Addr} {xs : List V} {i : Int} {v : V} {Q : VK} (h : SqT K H a xs) (e : atI xs i = some v) (q : Q v H) : rIx K (.ref a) (.int i) H Q := .inr (.inl ⟨a, xs, i, v, rfl, rfl, h, e, q⟩)
/-! displays: what comes is the data, and what stood stands -/
def DE (K : PySem.W.Frag) (σ : St) (H : Hp) (te : TE) (d : PyData) : Prop := ∀ H1, Same H H1 → ∀ Q : VK, (∀ v H2, Same H1 H2 → Dp K H2 v d → Q v H2) → te σ H1 Q
def DA (K : PySem.W.Frag) (σ : St) (H : Hp) (ta : TA) (ds : List PyData) : Prop := ∀ H1, Same H H1 → ∀ Q : List V → Hp → Prop, (∀ vs H2, Same H1 H2 → DpAll K H2 vs ds → Q vs H2) → ta σ H1 Q
section
variable {σ : St} {H : Hp} {te : TE} {ta : TA} {d : PyData} {ds : List PyData} {v : V} {i : Nat}
theorem de_int {z : Int} : DE K σ H (tC (.int z)) (.int z) := fun _ _ _ k => k _ _ (Same.refl _) (.int z)
theorem de_neg {z : Int} : DE K σ H (tUn (rU fun i => .int (-i)) (tC (.int z))) (.int (-z)) := fun _ _ _ k => ⟨z, rfl, k _ _ (Same.refl _) (.int (-z))⟩
theorem de_bl {b : Bool} : DE K σ H (tC (.bl b)) (.bool b) := fun _ _ _ k => k _ _ (Same.refl _) (.bl b)
theorem de_str {x : Str} : DE K σ H (tC (.str x)) (.str x) := fun _ _ _ k => k _ _ (Same.refl _) (.str x)
theorem de_non : DE K σ H (tC .non) .none := fun _ _ _ k => k _ _ (Same.refl _) .non
theorem de_var (e : σ[i]? = some (some v)) (h : Dp K H v d) : DE K σ H (tVar i) d := fun _ s _ k => ⟨v, e, k _ _ (Same.refl _) (keepD s _ _ h)⟩
theorem da_nil : DA K σ H tNil [] := fun _ _ _ k => k _ _ (Same.refl _) .nil
theorem da_cons (h : DE K σ H te d) (t : DA K σ H ta ds) : DA K σ H (tCons te ta) (d :: ds) := fun H1 s Q k =>
  h H1 s _ fun v H2 s2 hv => t H2 (s.trans s2) _ fun vs H3 s3 ha => k _ _ (s2.trans s3) (.cons (keepD s3 _ _ hv) ha)
theorem de_tup (h : DA K σ H ta ds) (hl : ds.length ≤ 1000 := by first | decide | (simp only [List.length_cons, List.length_nil]; decide)) : DE K σ H (tTup ta) (.tuple ds) := fun H1 s Q k =>
  h H1 s _ fun vs H2 s2 ha => ⟨small (by rw [DpAll.length ha]; exact hl), fun p np => k _ _ (s2.trans (same_upd np)) (.tup (.of upd_same) (keepDs (same_upd np) _ _ ha))⟩
theorem de_lst (h : DA K σ H ta ds) (hl : ds.length ≤ 1000 := by first | decide | (simp only [List.length_cons, List.length_nil]; decide)) : DE K σ H (tLst ta) (.list ds) := fun H1 s Q k =>
  h H1 s _ fun vs H2 s2 ha => ⟨small (by rw [DpAll.length ha]; exact hl), fun p np => k _ _ (s2.trans (same_upd np)) (.lst (.of upd_same) (keepDs (same_upd np) _ _ ha))⟩
/-- a list that may be written: its place -/
theorem dl_lst (h : DA K σ H ta ds) (Q : VK) (k : ∀ p vs H2, Same H H2 → H2 p = some (.lst vs) → DpAll K H2 vs ds → Q (.ref p) H2) (hl : ds.length ≤ 1000 := by first | decide | (simp only [List.length_cons, List.length_nil]; decide)) : tLst ta σ H Q :=
  h H (Same.refl _) _ fun vs H2 s2 ha => ⟨small (by rw [DpAll.length ha]; exact hl), fun p np => k _ _ _ (s2.trans (same_upd np)) upd_same (keepDs (same_upd np) _ _ ha)⟩
theorem DpAll.append {H : Hp} : ∀ {xs ys : List V} {ds es : List PyData}, DpAll K H xs ds → DpAll K H ys es → DpAll K H (xs ++ ys) (ds ++ es)
  | _, _, _, _, .nil, h => h
  | _, _, _, _, .cons h t, u => .cons h (DpAll.append t u)
theorem DpAll.take {H : Hp} : ∀ {xs : List V} {ds : List PyData} (n : Nat), DpAll K H xs ds → DpAll K H (xs.take n) (ds.take n)
  | _, _, 0, _ => by
    rw [List.take_zero, List.take_zero]
    exact .nil
  | _, _, _ + 1, .nil => .nil
  | _, _, n + 1, .cons h t => .cons h (DpAll.take n t)
theorem DpAll.drop {H : Hp} : ∀ {xs : List V} {ds : List PyData} (n : Nat), DpAll K H xs ds → DpAll K H (xs.drop n) (ds.drop n)
  | _, _, 0, h => h
  | _, _, _ + 1, .nil => .nil
  | _, _, n + 1, .cons _ t => DpAll.drop n t
theorem cat_ok {a b : Addr} {xs ys : List V} {Q : VK} (h1 : H a = some (.lst xs)) (h2 : H b = some (.lst ys)) (hl : xs.length + ys.length ≤ sizeLine) (q : ∀ p H', Same H H' → H' p = some (.lst (xs ++ ys)) → Q (.ref p) H') : rCat (.ref a) (.ref b) H Q :=
  ⟨a, b, xs, ys, rfl, rfl, h1, h2, hl, fun p np => q _ _ (same_upd np) upd_same⟩
end
end
/-! ### the text by places -/
def top (i : Nat) : Stmt := PySem.Challenge.pw_allsomeno_k15_subsets_and_at_least.main.body.getD i (.Pass ⟨0, 0, 0, 0⟩)
abbrev sis_integer : Stmt := top 9
abbrev Nis_integer : List Str := ["value", "least", "most"]
theorem scis_integer : FnScope Nis_integer ["value", "least", "most"] (defScope sis_integer) := ⟨rfl, rfl, rfl, by decide +kernel, rfl, by decide +kernel, by decide +kernel⟩
abbrev sis_noun : Stmt := top 10
abbrev Nis_noun : List Str := ["signature", "value"]
theorem scis_noun : FnScope Nis_noun ["signature", "value"] (defScope sis_noun) := ⟨rfl, rfl, rfl, by decide +kernel, rfl, by decide +kernel, by decide +kernel⟩
abbrev sis_verb : Stmt := top 11
abbrev Nis_verb : List Str := ["signature", "value"]
theorem scis_verb : FnScope Nis_verb ["signature", "value"] (defScope sis_verb) := ⟨rfl, rfl, rfl, by decide +kernel, rfl, by decide +kernel, by decide +kernel⟩
abbrev sis_signature : Stmt := top 12
abbrev Nis_signature : List Str := ["value"]
theorem scis_signature : FnScope Nis_signature ["value"] (defScope sis_signature) := ⟨rfl, rfl, rfl, by decide +kernel, rfl, by decide +kernel, by decide +kernel⟩
abbrev sis_sentence : Stmt := top 13
abbrev Nis_sentence : List Str := ["signature", "value"]
theorem scis_sentence : FnScope Nis_sentence ["signature", "value"] (defScope sis_sentence) := ⟨rfl, rfl, rfl, by decide +kernel, rfl, by decide +kernel, by decide +kernel⟩
abbrev s_is_verb_sentence : Stmt := top 14
abbrev N_is_verb_sentence : List Str := ["signature", "value", "_", "q", "x", "does", "v", "by", "p", "y"]
theorem sc_is_verb_sentence : FnScope N_is_verb_sentence ["signature", "value"] (defScope s_is_verb_sentence) := ⟨rfl, rfl, rfl, by decide +kernel, rfl, by decide +kernel, by decide +kernel⟩
abbrev s_is_self_sentence : Stmt := top 15
abbrev N_is_self_sentence : List Str := ["signature", "value", "_", "q", "x", "does", "v"]
theorem sc_is_self_sentence : FnScope N_is_self_sentence ["signature", "value"] (defScope s_is_self_sentence) := ⟨rfl, rfl, rfl, by decide +kernel, rfl, by decide +kernel, by decide +kernel⟩
abbrev sare_premises : Stmt := top 16
abbrev Nare_premises : List Str := ["signature", "value", "one"]
theorem scare_premises : FnScope Nare_premises ["signature", "value"] (defScope sare_premises) := ⟨rfl, rfl, rfl, by decide +kernel, rfl, by decide +kernel, by decide +kernel⟩
abbrev scheck_signature : Stmt := top 17
abbrev Ncheck_signature : List Str := ["signature"]
theorem sccheck_signature : FnScope Ncheck_signature ["signature"] (defScope scheck_signature) := ⟨rfl, rfl, rfl, by decide +kernel, rfl, by decide +kernel, by decide +kernel⟩
abbrev scheck_premises : Stmt := top 18
abbrev Ncheck_premises : List Str := ["signature", "premises", "name"]
theorem sccheck_premises : FnScope Ncheck_premises ["signature", "premises", "name"] (defScope scheck_premises) := ⟨rfl, rfl, rfl, by decide +kernel, rfl, by decide +kernel, by decide +kernel⟩
abbrev s_table : Stmt := top 20
abbrev N_table : List Str := ["many", "pairs", "x", "y"]
theorem sc_table : FnScope N_table ["many", "pairs"] (defScope s_table) := ⟨rfl, rfl, rfl, by decide +kernel, rfl, by decide +kernel, by decide +kernel⟩
abbrev s_leads : Stmt := top 21
abbrev N_leads : List Str := ["table", "x", "y", "z"]
theorem sc_leads : FnScope N_leads ["table", "x", "y"] (defScope s_leads) := ⟨rfl, rfl, rfl, by decide +kernel, rfl, by decide +kernel, by decide +kernel⟩
abbrev s_more_subsets : Stmt := top 22
abbrev N_more_subsets : List Str := ["inside", "enough", "nouns", "x", "y"]
theorem sc_more_subsets : FnScope N_more_subsets ["inside", "enough"] (defScope s_more_subsets) := ⟨rfl, rfl, rfl, by decide +kernel, rfl, by decide +kernel, by decide +kernel⟩
abbrev s_more_at_least : Stmt := top 23
abbrev N_more_at_least : List Str := ["inside", "enough", "nouns", "x", "y"]
theorem sc_more_at_least : FnScope N_more_at_least ["inside", "enough"] (defScope s_more_at_least) := ⟨rfl, rfl, rfl, by decide +kernel, rfl, by decide +kernel, by decide +kernel⟩
abbrev stables_of : Stmt := top 24
abbrev Ntables_of : List Str := ["many", "premises", "parts", "counts", "premise", "inside", "enough", "before", "x"]
theorem sctables_of : FnScope Ntables_of ["many", "premises"] (defScope stables_of) := ⟨rfl, rfl, rfl, by decide +kernel, rfl, by decide +kernel, by decide +kernel⟩
abbrev s_different_pairs : Stmt := top 25
abbrev N_different_pairs : List Str := ["table", "nouns", "x", "y"]
theorem sc_different_pairs : FnScope N_different_pairs ["table"] (defScope s_different_pairs) := ⟨rfl, rfl, rfl, by decide +kernel, rfl, by decide +kernel, by decide +kernel⟩
abbrev ssubsets : Stmt := top 26
abbrev Nsubsets : List Str := ["signature", "premises", "inside", "_"]
theorem scsubsets : FnScope Nsubsets ["signature", "premises"] (defScope ssubsets) := ⟨rfl, rfl, rfl, by decide +kernel, rfl, by decide +kernel, by decide +kernel⟩
abbrev sat_least : Stmt := top 27
abbrev Nat_least : List Str := ["signature", "premises", "_", "enough"]
theorem scat_least : FnScope Nat_least ["signature", "premises"] (defScope sat_least) := ⟨rfl, rfl, rfl, by decide +kernel, rfl, by decide +kernel, by decide +kernel⟩
abbrev s_law_stream : Stmt := top 29
abbrev N_law_stream : List Str := ["script"]
theorem sc_law_stream : FnScope N_law_stream ["script"] (defScope s_law_stream) := ⟨rfl, rfl, rfl, by decide +kernel, rfl, by decide +kernel, by decide +kernel⟩
abbrev s_law_next : Stmt := top 30
abbrev N_law_next : List Str := ["stream", "many", "k", "cell", "digit"]
theorem sc_law_next : FnScope N_law_next ["stream", "many"] (defScope s_law_next) := ⟨rfl, rfl, rfl, by decide +kernel, rfl, by decide +kernel, by decide +kernel⟩
abbrev s_law_is_integer : Stmt := top 31
abbrev N_law_is_integer : List Str := ["actual"]
theorem sc_law_is_integer : FnScope N_law_is_integer ["actual"] (defScope s_law_is_integer) := ⟨rfl, rfl, rfl, by decide +kernel, rfl, by decide +kernel, by decide +kernel⟩
abbrev s_law_equal : Stmt := top 32
abbrev N_law_equal : List Str := ["actual", "due", "at"]
theorem sc_law_equal : FnScope N_law_equal ["actual", "due"] (defScope s_law_equal) := ⟨rfl, rfl, rfl, by decide +kernel, rfl, by decide +kernel, by decide +kernel⟩
abbrev s_law_sentence : Stmt := top 33
abbrev N_law_sentence : List Str := ["stream", "nouns", "verbs", "x", "y", "pick", "words", "q", "does", "v"]
theorem sc_law_sentence : FnScope N_law_sentence ["stream", "nouns", "verbs"] (defScope s_law_sentence) := ⟨rfl, rfl, rfl, by decide +kernel, rfl, by decide +kernel, by decide +kernel⟩
abbrev s_law_premises : Stmt := top 34
abbrev N_law_premises : List Str := ["stream", "signature", "most", "k"]
theorem sc_law_premises : FnScope N_law_premises ["stream", "signature", "most"] (defScope s_law_premises) := ⟨rfl, rfl, rfl, by decide +kernel, rfl, by decide +kernel, by decide +kernel⟩
abbrev s_law_signature : Stmt := top 35
abbrev N_law_signature : List Str := ["stream", "most"]
theorem sc_law_signature : FnScope N_law_signature ["stream", "most"] (defScope s_law_signature) := ⟨rfl, rfl, rfl, by decide +kernel, rfl, by decide +kernel, by decide +kernel⟩
abbrev s_law_sub : Stmt := top 36
abbrev N_law_sub : List Str := ["signature", "premises", "x", "y", "sub", "most", "sentence", "nouns", "turn", "z"]
theorem sc_law_sub : FnScope N_law_sub ["signature", "premises"] (defScope s_law_sub) := ⟨rfl, rfl, rfl, by decide +kernel, rfl, by decide +kernel, by decide +kernel⟩
abbrev slaw : Stmt := top 37
abbrev Nlaw : List Str := ["script", "stream", "most", "signature", "premises", "sub", "more", "pairs", "x", "first", "second", "other", "y"]
theorem sclaw : FnScope Nlaw ["script"] (defScope slaw) := ⟨rfl, rfl, rfl, by decide +kernel, rfl, by decide +kernel, by decide +kernel⟩
/-! ### what the top has written -/
structure Txt (K : PySem.W.Frag) (mg : Str → Option Value) where
  f_is_integer : Addr
  d_is_integer : FuncData
  F_is_integer : Fun K "is_integer" "is_integer" sis_integer f_is_integer d_is_integer
  g_is_integer : mg "is_integer" = some (.ref f_is_integer)
  b_is_integer : Binds K d_is_integer ["value", "least", "most"] []
  f_is_noun : Addr
  d_is_noun : FuncData
  F_is_noun : Fun K "is_noun" "is_noun" sis_noun f_is_noun d_is_noun
  g_is_noun : mg "is_noun" = some (.ref f_is_noun)
  b_is_noun : Binds K d_is_noun ["signature", "value"] []
  f_is_verb : Addr
  d_is_verb : FuncData
  F_is_verb : Fun K "is_verb" "is_verb" sis_verb f_is_verb d_is_verb
  g_is_verb : mg "is_verb" = some (.ref f_is_verb)
  b_is_verb : Binds K d_is_verb ["signature", "value"] []
  f_is_signature : Addr
  d_is_signature : FuncData
  F_is_signature : Fun K "is_signature" "is_signature" sis_signature f_is_signature d_is_signature
  g_is_signature : mg "is_signature" = some (.ref f_is_signature)
  b_is_signature : Binds K d_is_signature ["value"] []
  f_is_sentence : Addr
  d_is_sentence : FuncData
  F_is_sentence : Fun K "is_sentence" "is_sentence" sis_sentence f_is_sentence d_is_sentence
  g_is_sentence : mg "is_sentence" = some (.ref f_is_sentence)
  b_is_sentence : Binds K d_is_sentence ["signature", "value"] []
  f__is_verb_sentence : Addr
  d__is_verb_sentence : FuncData
  F__is_verb_sentence : Fun K "_is_verb_sentence" "_is_verb_sentence" s_is_verb_sentence f__is_verb_sentence d__is_verb_sentence
  g__is_verb_sentence : mg "_is_verb_sentence" = some (.ref f__is_verb_sentence)
  b__is_verb_sentence : Binds K d__is_verb_sentence ["signature", "value"] []
  f__is_self_sentence : Addr
  d__is_self_sentence : FuncData
  F__is_self_sentence : Fun K "_is_self_sentence" "_is_self_sentence" s_is_self_sentence f__is_self_sentence d__is_self_sentence
  g__is_self_sentence : mg "_is_self_sentence" = some (.ref f__is_self_sentence)
  b__is_self_sentence : Binds K d__is_self_sentence ["signature", "value"] []
  f_are_premises : Addr
  d_are_premises : FuncData
  F_are_premises : Fun K "are_premises" "are_premises" sare_premises f_are_premises d_are_premises
  g_are_premises : mg "are_premises" = some (.ref f_are_premises)
  b_are_premises : Binds K d_are_premises ["signature", "value"] []
  f_check_signature : Addr
  d_check_signature : FuncData
  F_check_signature : Fun K "check_signature" "check_signature" scheck_signature f_check_signature d_check_signature
  g_check_signature : mg "check_signature" = some (.ref f_check_signature)
  b_check_signature : Binds K d_check_signature ["signature"] []
  f_check_premises : Addr
  d_check_premises : FuncData
  F_check_premises : Fun K "check_premises" "check_premises" scheck_premises f_check_premises d_check_premises
  g_check_premises : mg "check_premises" = some (.ref f_check_premises)
  b_check_premises : Binds K d_check_premises ["signature", "premises", "name"] []
  f__table : Addr
  d__table : FuncData
  F__table : Fun K "_table" "_table" s_table f__table d__table
  g__table : mg "_table" = some (.ref f__table)
  b__table : Binds K d__table ["many", "pairs"] []
  f__leads : Addr
  d__leads : FuncData
  F__leads : Fun K "_leads" "_leads" s_leads f__leads d__leads
  g__leads : mg "_leads" = some (.ref f__leads)
  b__leads : Binds K d__leads ["table", "x", "y"] []
  f__more_subsets : Addr
  d__more_subsets : FuncData
  F__more_subsets : Fun K "_more_subsets" "_more_subsets" s_more_subsets f__more_subsets d__more_subsets
  g__more_subsets : mg "_more_subsets" = some (.ref f__more_subsets)
  b__more_subsets : Binds K d__more_subsets ["inside", "enough"] []
  f__more_at_least : Addr
  d__more_at_least : FuncData
  F__more_at_least : Fun K "_more_at_least" "_more_at_least" s_more_at_least f__more_at_least d__more_at_least
  g__more_at_least : mg "_more_at_least" = some (.ref f__more_at_least)
  b__more_at_least : Binds K d__more_at_least ["inside", "enough"] []
  f_tables_of : Addr
  d_tables_of : FuncData
  F_tables_of : Fun K "tables_of" "tables_of" stables_of f_tables_of d_tables_of
  g_tables_of : mg "tables_of" = some (.ref f_tables_of)
  b_tables_of : Binds K d_tables_of ["many", "premises"] []
  f__different_pairs : Addr
  d__different_pairs : FuncData
  F__different_pairs : Fun K "_different_pairs" "_different_pairs" s_different_pairs f__different_pairs d__different_pairs
  g__different_pairs : mg "_different_pairs" = some (.ref f__different_pairs)
  b__different_pairs : Binds K d__different_pairs ["table"] []
  f_subsets : Addr
  d_subsets : FuncData
  F_subsets : Fun K "subsets" "subsets" ssubsets f_subsets d_subsets
  g_subsets : mg "subsets" = some (.ref f_subsets)
  b_subsets : Binds K d_subsets ["signature", "premises"] []
  f_at_least : Addr
  d_at_least : FuncData
  F_at_least : Fun K "at_least" "at_least" sat_least f_at_least d_at_least
  g_at_least : mg "at_least" = some (.ref f_at_least)
  b_at_least : Binds K d_at_least ["signature", "premises"] []
  f__law_stream : Addr
  d__law_stream : FuncData
  F__law_stream : Fun K "_law_stream" "_law_stream" s_law_stream f__law_stream d__law_stream
  g__law_stream : mg "_law_stream" = some (.ref f__law_stream)
  b__law_stream : Binds K d__law_stream ["script"] []
  f__law_next : Addr
  d__law_next : FuncData
  F__law_next : Fun K "_law_next" "_law_next" s_law_next f__law_next d__law_next
  g__law_next : mg "_law_next" = some (.ref f__law_next)
  b__law_next : Binds K d__law_next ["stream", "many"] []
  f__law_is_integer : Addr
  d__law_is_integer : FuncData
  F__law_is_integer : Fun K "_law_is_integer" "_law_is_integer" s_law_is_integer f__law_is_integer d__law_is_integer
  g__law_is_integer : mg "_law_is_integer" = some (.ref f__law_is_integer)
  b__law_is_integer : Binds K d__law_is_integer ["actual"] []
  f__law_equal : Addr
  d__law_equal : FuncData
  F__law_equal : Fun K "_law_equal" "_law_equal" s_law_equal f__law_equal d__law_equal
  g__law_equal : mg "_law_equal" = some (.ref f__law_equal)
  b__law_equal : Binds K d__law_equal ["actual", "due"] []
  f__law_sentence : Addr
  d__law_sentence : FuncData
  F__law_sentence : Fun K "_law_sentence" "_law_sentence" s_law_sentence f__law_sentence d__law_sentence
  g__law_sentence : mg "_law_sentence" = some (.ref f__law_sentence)
  b__law_sentence : Binds K d__law_sentence ["stream", "nouns", "verbs"] []
  f__law_premises : Addr
  d__law_premises : FuncData
  F__law_premises : Fun K "_law_premises" "_law_premises" s_law_premises f__law_premises d__law_premises
  g__law_premises : mg "_law_premises" = some (.ref f__law_premises)
  b__law_premises : Binds K d__law_premises ["stream", "signature", "most"] []
  f__law_signature : Addr
  d__law_signature : FuncData
  F__law_signature : Fun K "_law_signature" "_law_signature" s_law_signature f__law_signature d__law_signature
  g__law_signature : mg "_law_signature" = some (.ref f__law_signature)
  b__law_signature : Binds K d__law_signature ["stream", "most"] []
  f__law_sub : Addr
  d__law_sub : FuncData
  F__law_sub : Fun K "_law_sub" "_law_sub" s_law_sub f__law_sub d__law_sub
  g__law_sub : mg "_law_sub" = some (.ref f__law_sub)
  b__law_sub : Binds K d__law_sub ["signature", "premises"] []
  cc_are_premises : Addr
  pp_are_premises : Addr
  FC_are_premises : GXX.FunC K "are_premises" "are_premises" sare_premises f_are_premises d_are_premises cc_are_premises
  cc__leads : Addr
  pp__leads : Addr
  FC__leads : GXX.FunC K "_leads" "_leads" s_leads f__leads d__leads cc__leads
  n_abs : mg "abs" = none
  n_all : mg "all" = none
  n_any : mg "any" = none
  n_bool : mg "bool" = none
  n_int : mg "int" = none
  n_isinstance : mg "isinstance" = none
  n_len : mg "len" = none
  n_list : mg "list" = none
  n_range : mg "range" = none
  n_str : mg "str" = none
  n_tuple : mg "tuple" = none
  k_MOST_NOUNS : Tok
  c_MOST_NOUNS : mg "MOST_NOUNS" = some (.int 4 k_MOST_NOUNS)
  k_MOST_VERBS : Tok
  c_MOST_VERBS : mg "MOST_VERBS" = some (.int 2 k_MOST_VERBS)
  k_MOST_PREMISES : Tok
  c_MOST_PREMISES : mg "MOST_PREMISES" = some (.int 8 k_MOST_PREMISES)
  a_QUANTIFIERS : Addr
  c_QUANTIFIERS : mg "QUANTIFIERS" = some (.ref a_QUANTIFIERS)
  t_QUANTIFIERS : ∀ H : Hp, SqT K H a_QUANTIFIERS [.str "all", .str "some"]
  a_NOUN_WORDS : Addr
  c_NOUN_WORDS : mg "NOUN_WORDS" = some (.ref a_NOUN_WORDS)
  t_NOUN_WORDS : ∀ H : Hp, SqT K H a_NOUN_WORDS [.str "all", .str "some not", .str "no", .str "some", .str "as many", .str "fewer"]
/-! ### x in t, t a tuple of any data -/
theorem _root_.L2.Room.units2 {k : Nat} {A : Around} (hr : Room k A) : A.units + 65 < cLine := by
  have := hr.un
  omega
def inW (ds : List PyData) (d : PyData) : Bool := ds.any fun z => PyData.eqv z d
def rNotInT (K : PySem.W.Frag) : R2 := fun x y H Q => ∃ d ds, Dp K H x d ∧ Dp K H y (.tuple ds) ∧ SeqAt.shaped d = true ∧ SeqAt.shaped (.tuple ds) = true ∧ Q (.bl (!inW ds d)) H
def rInT (K : PySem.W.Frag) : R2 := fun x y H Q => ∃ d ds, Dp K H x d ∧ Dp K H y (.tuple ds) ∧ SeqAt.shaped d = true ∧ SeqAt.shaped (.tuple ds) = true ∧ Q (.bl (inW ds d)) H
section
variable {X : Cx}
theorem op_notInT (hu : X.A.units + 65 < cLine) : OpR X (compareOp .NotIn) (rNotInT X.K) := by
  intro pins s σ H x y v u Q I rx ry h
  obtain ⟨d, ds, hd, he, sd, se, q⟩ := h
  obtain ⟨as, r1⟩ := Dp.reads I d x v hd rx
  obtain ⟨bs, r2⟩ := Dp.reads I (.tuple ds) y u he ry
  exact SeqAt.notIn_tuple_reads r2 r1 (SeqAt.canLay_of_shaped se) (SeqAt.canLay_of_shaped sd) (PyProof.Rows.room_in_shaped sd hu) ⟨.bl _, H, I, rfl, q⟩
theorem op_inT (hu : X.A.units + 65 < cLine) : OpR X (compareOp .In) (rInT X.K) := by
  intro pins s σ H x y v u Q I rx ry h
  obtain ⟨d, ds, hd, he, sd, se, q⟩ := h
  obtain ⟨as, r1⟩ := Dp.reads I d x v hd rx
  obtain ⟨bs, r2⟩ := Dp.reads I (.tuple ds) y u he ry
  exact SeqAt.in_tuple_reads r2 r1 (SeqAt.canLay_of_shaped se) (SeqAt.canLay_of_shaped sd) (PyProof.Rows.room_in_shaped sd hu) ⟨.bl _, H, I, rfl, q⟩
end
def words : List PyData := [.str "all", .str "some not", .str "no", .str "some", .str "as many", .str "fewer"]
def quants : List PyData := [.str "all", .str "some"]
theorem sh_words : SeqAt.shaped (.tuple words) = true := by decide +kernel
theorem sh_quants : SeqAt.shaped (.tuple quants) = true := by decide +kernel
/-! ### what the program reckons -/
def isStr (d : PyData) (x : Str) : Bool := PyData.eqv d (.str x)
def Sig (K : PySem.W.Frag) (H : Hp) (v : V) (n m : Int) : Prop := ∃ a, v = .ref a ∧ SqT K H a [.int n, .int m]
theorem Sig.keep {K : PySem.W.Frag} {H H' : Hp} {v : V} {n m : Int} (e : Same H H') (h : Sig K H v n m) : Sig K H' v n m := by
  obtain ⟨a, rfl, h⟩ := h
  exact ⟨a, rfl, Same.sqT e h⟩
theorem Sig.dp {K : PySem.W.Frag} {H : Hp} {v : V} {n m : Int} (h : Sig K H v n m) : Dp K H v (.tuple [.int n, .int m]) := by
  obtain ⟨a, rfl, h⟩ := h
  exact .tup h (.cons (.int n) (.cons (.int m) .nil))
def isSig : PyData → Bool
  | .tuple [a, b] => isInt a 1 4 && isInt b 0 2
  | _ => false
def isVS (n m : Int) : List PyData → Bool
  | [_, q, x, d, v, b, p, y] => (inW quants q && inW quants p) && ((isB d && isB b) && (isInt x 0 (n - 1) && (isInt v 0 (m - 1) && isInt y 0 (n - 1))))
  | _ => false
def isSS (n m : Int) : List PyData → Bool
  | [_, q, x, d, v] => (inW quants q && isB d) && (isInt x 0 (n - 1) && isInt v 0 (m - 1))
  | _ => false
def isNS (n : Int) : List PyData → Bool
  | [w, x, y] => inW words w && (isInt x 0 (n - 1) && isInt y 0 (n - 1))
  | _ => false
def isSent (n m : Int) : PyData → Bool
  | .tuple (w :: r) => if isStr w "verb" = true then isVS n m (w :: r) else if isStr w "self" = true then isSS n m (w :: r) else isNS n (w :: r)
  | _ => false
def isPrem (n m : Int) : PyData → Bool
  | .tuple ds => decide (ds.length ≤ 8) && ds.all (isSent n m)
  | _ => false
/-- its items can be compared -/
def shs : PyData → Bool
  | .tuple ds => ds.all SeqAt.shaped
  | _ => true
def shss : PyData → Bool
  | .tuple ds => ds.all shs
  | _ => true
theorem isInt_int {d : PyData} {lo hi : Int} (h : isInt d lo hi = true) : ∃ i, d = .int i := by
  cases d with
  | int i => exact ⟨i, rfl⟩
  | _ => exact absurd h (by simp [isInt])
theorem and_step {A B : Bool} {H : Hp} {Q : VK} {R : Prop} (k : Q (.bl (A && B)) H) (h : Q (.bl B) H → R) : if A = true then R else Q (.bl false) H := by
  cases A with
  | true => exact iteT (h k)
  | false => exact iteF k
theorem and_step2 {A B : Bool} {H : Hp} {Q : VK} {R : Prop} (k : Q (.bl (A && B)) H) (h : A = true → Q (.bl B) H → R) : if A = true then R else Q (.bl false) H := by
  cases A with
  | true => exact iteT (h rfl k)
  | false => exact iteF k
theorem dp_int {K : PySem.W.Frag} {H : Hp} {v : V} {i : Int} (h : Dp K H v (.int i)) : v = .int i := by
  cases h
  rfl
theorem isSig_of {n m : Int} (h1 : 1 ≤ n) (h2 : n ≤ 4) (h3 : 0 ≤ m) (h4 : m ≤ 2) : isSig (.tuple [.int n, .int m]) = true := by
  show ((decide (1 ≤ n) && decide (n ≤ 4)) && (decide (0 ≤ m) && decide (m ≤ 2))) = true
  rw [decide_eq_true h1, decide_eq_true h2, decide_eq_true h3, decide_eq_true h4]
  rfl
theorem len_ne {xs : List V} {j : Nat} (h : xs.length ≠ j) : decide (V.int (xs.length : Int) = V.int (j : Int)) = false := decide_eq_false fun z => h (by have := V.int.inj z; omega)
section
variable {P : Program} {w : World} {K : PySem.W.Frag} {mg : Str → Option Value} {base : Heap}
def spInteger (K : PySem.W.Frag) : Sp := fun vs H Q _ => ∃ (v : V) (d : PyData) (lo hi : Int), vs = [v, .int lo, .int hi] ∧ Dp K H v d ∧ Q (.bl (isInt d lo hi)) H
theorem ok_is_integer (T : Txt K mg) : FnOk P w K mg base CX0 1 T.f_is_integer T.d_is_integer ["value", "least", "most"] (spInteger K) := by
  refine T.F_is_integer.ok scis_integer (fun vs H Q E h => ?_) (fun cdv A outer s H vs Q E hr h => ?_)
  · obtain ⟨v, d, lo, hi, rfl, _⟩ := h
    rfl
  · obtain ⟨v, d, lo, hi, rfl, hd, k⟩ := h
    refine ⟨_, (pss_one (ps_ret (pe_and (pe_callB call_isi (by rfl) T.n_isinstance (by decide +kernel) (pa_cons (pv 0) (pa_cons (pe_bltn (v := .ty "int") (by rfl) T.n_int (by decide +kernel) rfl) pa_nil))) (pe_and (pe_not (pe_callB call_isi (by rfl) T.n_isinstance (by decide +kernel) (pa_cons (pv 0) (pa_cons (pe_bltn (v := .ty "bool") (by rfl) T.n_bool (by decide +kernel) rfl) pa_nil)))) (pe_one (pe_chain op_le op_le (pv 1) (pv 0) (pv 2))))))), ?_⟩
    refine ⟨v, rfl, v, .ty "int", _, _, _, rfl, .ty _, tyx hd, kitI d, _, rfl, ?_⟩
    cases hd with
    | non => exact iteF k
    | str x => exact iteF k
    | lst _ _ => exact iteF k
    | tup _ _ => exact iteF k
    | bl b =>
      refine iteT ?_
      refine ⟨_, rfl, _, .ty "bool", _, _, _, rfl, .ty _, tyx (.bl b), kitBo _, _, rfl, _, rfl, ?_⟩
      exact iteF k
    | int i =>
      refine iteT ?_
      refine ⟨_, rfl, _, .ty "bool", _, _, _, rfl, .ty _, tyx (.int i), kitBo _, _, rfl, _, rfl, iteT ?_⟩
      refine ⟨_, rfl, _, rfl, _, _, rfl, rfl, _, rfl, ?_⟩
      by_cases h1 : lo ≤ i
      · rw [decide_eq_true h1]
        refine iteT ⟨_, rfl, _, _, rfl, rfl, ?_⟩
        have e : isInt (.int i) lo hi = decide (i ≤ hi) := by
          show (decide (lo ≤ i) && decide (i ≤ hi)) = _
          rw [decide_eq_true h1, Bool.true_and]
        rw [e] at k
        exact k
      · rw [decide_eq_false h1]
        have e : isInt (.int i) lo hi = false := by
          show (decide (lo ≤ i) && decide (i ≤ hi)) = _
          rw [decide_eq_false h1, Bool.false_and]
        rw [e] at k
        exact iteF k
def spNoun (K : PySem.W.Frag) : Sp := fun vs H Q _ => ∃ (v x : V) (d : PyData) (n m : Int), vs = [v, x] ∧ Sig K H v n m ∧ Dp K H x d ∧ Q (.bl (isInt d 0 (n - 1))) H
theorem ok_is_noun (T : Txt K mg) : FnOk P w K mg base CX0 2 T.f_is_noun T.d_is_noun ["signature", "value"] (spNoun K) := by
  have G_is_integer := ok_is_integer (P := P) (w := w) (base := base) T
  refine T.F_is_noun.ok scis_noun (fun vs H Q E h => ?_) (fun cdv A outer s H vs Q E hr h => ?_)
  · obtain ⟨v, x, d, n, m, rfl, _⟩ := h
    rfl
  · obtain ⟨v, x, d, n, m, rfl, ⟨a, rfl, ha⟩, hd, k⟩ := h
    refine ⟨_, (pss_one (ps_ret (pe_call G_is_integer (hr.mono (by decide)) (by rfl) T.g_is_integer T.F_is_integer.kp T.b_is_integer .nil pass0 (pa_cons (pv 1) (pa_cons pe_int (pa_cons (pe_op op_sub (pe_ix ix_tup (pv 0) pe_int (fun _ _ => rfl)) pe_int) pa_nil)))))), ?_⟩
    exact ⟨x, rfl, .ref a, rfl, a, _, _, _, rfl, rfl, ha, atI_nat (j := 0) rfl, _, _, rfl, rfl, x, d, 0, n - 1, rfl, hd, k⟩
def spVerb (K : PySem.W.Frag) : Sp := fun vs H Q _ => ∃ (v x : V) (d : PyData) (n m : Int), vs = [v, x] ∧ Sig K H v n m ∧ Dp K H x d ∧ Q (.bl (isInt d 0 (m - 1))) H
theorem ok_is_verb (T : Txt K mg) : FnOk P w K mg base CX0 2 T.f_is_verb T.d_is_verb ["signature", "value"] (spVerb K) := by
  have G_is_integer := ok_is_integer (P := P) (w := w) (base := base) T
  refine T.F_is_verb.ok scis_verb (fun vs H Q E h => ?_) (fun cdv A outer s H vs Q E hr h => ?_)
  · obtain ⟨v, x, d, n, m, rfl, _⟩ := h
    rfl
  · obtain ⟨v, x, d, n, m, rfl, ⟨a, rfl, ha⟩, hd, k⟩ := h
    refine ⟨_, (pss_one (ps_ret (pe_call G_is_integer (hr.mono (by decide)) (by rfl) T.g_is_integer T.F_is_integer.kp T.b_is_integer .nil pass0 (pa_cons (pv 1) (pa_cons pe_int (pa_cons (pe_op op_sub (pe_ix ix_tup (pv 0) pe_int (fun _ _ => rfl)) pe_int) pa_nil)))))), ?_⟩
    exact ⟨x, rfl, .ref a, rfl, a, _, _, _, rfl, rfl, ha, atI_nat (j := 1) rfl, _, _, rfl, rfl, x, d, 0, m - 1, rfl, hd, k⟩
def spSignature (K : PySem.W.Frag) : Sp := fun vs H Q _ => ∃ (v : V) (d : PyData), vs = [v] ∧ Dp K H v d ∧ Q (.bl (isSig d)) H
theorem ok_is_signature (T : Txt K mg) : FnOk P w K mg base CX0 2 T.f_is_signature T.d_is_signature ["value"] (spSignature K) := by
  have G_is_integer := ok_is_integer (P := P) (w := w) (base := base) T
  refine T.F_is_signature.ok scis_signature (fun vs H Q E h => ?_) (fun cdv A outer s H vs Q E hr h => ?_)
  · obtain ⟨v, d, rfl, _⟩ := h
    rfl
  · obtain ⟨v, d, rfl, hd, k⟩ := h
    refine ⟨_, (pss_cons (ps_if (PW.pt (pw_or (pt_not (pt_val (pe_callB call_isi (by rfl) T.n_isinstance (by decide +kernel) (pa_cons (pv 0) (pa_cons (pe_bltn (v := .ty "tuple") (by rfl) T.n_tuple (by decide +kernel) rfl) pa_nil))))) (pw_or1 (pt_cmpR op_ne (pe_callB call_len_seq (by rfl) T.n_len (by decide +kernel) (pa_cons (pv 0) pa_nil)) pe_int (nomark _))))) (pss_one (ps_ret pe_bl)) pss_nil)
      (pss_one (ps_ret (pe_and (pe_call G_is_integer (hr.mono (by decide)) (by rfl) T.g_is_integer T.F_is_integer.kp T.b_is_integer .nil pass0 (pa_cons (pe_ix ix_tup (pv 0) pe_int (fun _ _ => rfl)) (pa_cons pe_int (pa_cons (pe_glob (v := .int 4) rfl T.c_MOST_NOUNS ⟨_, rfl⟩) pa_nil)))) (pe_one (pe_call G_is_integer (hr.mono (by decide)) (by rfl) T.g_is_integer T.F_is_integer.kp T.b_is_integer .nil pass0 (pa_cons (pe_ix ix_tup (pv 0) pe_int (fun _ _ => rfl)) (pa_cons pe_int (pa_cons (pe_glob (v := .int 2) rfl T.c_MOST_VERBS ⟨_, rfl⟩) pa_nil))))))))), ?_⟩
    refine ⟨v, rfl, v, .ty "tuple", _, _, _, rfl, .ty _, tyx hd, kitT d, _, rfl, ?_⟩
    cases hd with
    | non => exact iteT (iteT k)
    | bl b => exact iteT (iteT k)
    | int i => exact iteT (iteT k)
    | str x => exact iteT (iteT k)
    | lst _ _ => exact iteT (iteT k)
    | @tup a xs ds hs ha =>
      refine iteF ⟨_, rfl, a, xs, rfl, .inr hs, rfl, _, rfl, ?_⟩
      have hl := DpAll.length ha
      by_cases h2 : xs.length = 2
      · rw [h2]
        refine iteF ?_
        cases ha with
        | nil => cases h2
        | @cons x xs2 d1 ds2 h1 ha2 =>
          cases ha2 with
          | nil => cases h2
          | @cons y xs3 d2 ds3 h3 ha3 =>
            cases ha3 with
            | cons _ _ => rw [List.length_cons, List.length_cons, List.length_cons] at h2; omega
            | nil =>
              refine ⟨_, rfl, a, _, _, x, rfl, rfl, hs, atI_nat (j := 0) rfl, x, d1, 1, 4, rfl, h1, _, rfl, ?_⟩
              by_cases q : isInt d1 1 4 = true
              · rw [q]
                refine iteT ⟨_, rfl, a, _, _, y, rfl, rfl, hs, atI_nat (j := 1) rfl, y, d2, 0, 2, rfl, h3, ?_⟩
                have e : isSig (.tuple [d1, d2]) = isInt d2 0 2 := by
                  show (isInt d1 1 4 && isInt d2 0 2) = _
                  rw [q, Bool.true_and]
                rw [e] at k
                exact k
              · rw [Bool.eq_false_iff.mpr q]
                have e : isSig (.tuple [d1, d2]) = false := by
                  show (isInt d1 1 4 && isInt d2 0 2) = _
                  rw [Bool.eq_false_iff.mpr q, Bool.false_and]
                rw [e] at k
                exact iteF k
      · have e0 : decide (V.int (xs.length : Int) = V.int 2) = false := decide_eq_false fun z => h2 (by have := V.int.inj z; omega)
        rw [e0]
        refine iteT ?_
        have e : isSig (.tuple ds) = false := by
          rw [hl] at h2
          match ds, h2 with
          | [], _ => rfl
          | [_], _ => rfl
          | [_, _], h => exact absurd rfl h
          | _ :: _ :: _ :: _, _ => rfl
        rw [e] at k
        exact k
end
section
variable {P : Program} {w : World} {K : PySem.W.Frag} {mg : Str → Option Value} {base : Heap}
def spItems (K : PySem.W.Frag) (f : Int → Int → List PyData → Bool) : Sp := fun vs H Q _ => ∃ (v : V) (n m : Int) (a : Addr) (xs : List V) (ds : List PyData), vs = [v, .ref a] ∧ Sig K H v n m ∧ SqT K H a xs ∧ DpAll K H xs ds ∧ ds.all SeqAt.shaped = true ∧ Q (.bl (f n m ds)) H
theorem or_step {A : Bool} {H : Hp} {Q : VK} {B : Bool} {R : Prop} (k : Q (.bl (A && B)) H) (h : A = true → Q (.bl B) H → R) : if (!A) = true then Q (.bl false) H else R := by
  cases A with
  | true => exact iteF (h rfl k)
  | false => exact iteT k
theorem ok__is_verb_sentence (T : Txt K mg) : FnOk P w K mg base CX0 3 T.f__is_verb_sentence T.d__is_verb_sentence ["signature", "value"] (spItems K isVS) := by
  have G_is_noun := ok_is_noun (P := P) (w := w) (base := base) T
  have G_is_verb := ok_is_verb (P := P) (w := w) (base := base) T
  refine T.F__is_verb_sentence.ok sc_is_verb_sentence (fun vs H Q E h => ?_) (fun cdv A outer s H vs Q E hr h => ?_)
  · obtain ⟨v, n, m, a, xs, ds, rfl, _⟩ := h
    rfl
  · obtain ⟨v, n, m, a, xs, ds, rfl, hs, ht, hd, sh, k⟩ := h
    refine ⟨_, (pss_cons (ps_if (pt_cmpR op_ne (pe_callB call_len_seq (by rfl) T.n_len (by decide +kernel) (pa_cons (pv 1) pa_nil)) pe_int (nomark _)) (pss_one (ps_ret pe_bl)) pss_nil)
      (pss_cons (ps_asg (pv 1) (pg_tup rfl (pgs_cons (pg_name (i := 2) sc_is_verb_sentence.nd rfl (Or.inl rfl)) (pgs_cons (pg_name (i := 3) sc_is_verb_sentence.nd rfl (Or.inl rfl)) (pgs_cons (pg_name (i := 4) sc_is_verb_sentence.nd rfl (Or.inl rfl)) (pgs_cons (pg_name (i := 5) sc_is_verb_sentence.nd rfl (Or.inl rfl)) (pgs_cons (pg_name (i := 6) sc_is_verb_sentence.nd rfl (Or.inl rfl)) (pgs_cons (pg_name (i := 7) sc_is_verb_sentence.nd rfl (Or.inl rfl)) (pgs_cons (pg_name (i := 8) sc_is_verb_sentence.nd rfl (Or.inl rfl)) (pgs_cons (pg_name (i := 9) sc_is_verb_sentence.nd rfl (Or.inl rfl)) pgs_nil))))))))))
      (pss_cons (ps_if (PW.pt (pw_or (pt_cmpR (op_notInT hr.units2) (pv 3) (pe_glob (v := .ref T.a_QUANTIFIERS) rfl T.c_QUANTIFIERS rfl) (by rfl)) (pw_or1 (pt_cmpR (op_notInT hr.units2) (pv 8) (pe_glob (v := .ref T.a_QUANTIFIERS) rfl T.c_QUANTIFIERS rfl) (by rfl))))) (pss_one (ps_ret pe_bl)) pss_nil)
      (pss_cons (ps_if (PW.pt (pw_or (pt_not (pt_val (pe_callB call_isi (by rfl) T.n_isinstance (by decide +kernel) (pa_cons (pv 5) (pa_cons (pe_bltn (v := .ty "bool") (by rfl) T.n_bool (by decide +kernel) rfl) pa_nil))))) (pw_or1 (pt_not (pt_val (pe_callB call_isi (by rfl) T.n_isinstance (by decide +kernel) (pa_cons (pv 7) (pa_cons (pe_bltn (v := .ty "bool") (by rfl) T.n_bool (by decide +kernel) rfl) pa_nil)))))))) (pss_one (ps_ret pe_bl)) pss_nil)
      (pss_one (ps_ret (pe_and (pe_call G_is_noun (hr.mono (by decide)) (by rfl) T.g_is_noun T.F_is_noun.kp T.b_is_noun .nil pass0 (pa_cons (pv 0) (pa_cons (pv 4) pa_nil))) (pe_and (pe_call G_is_verb (hr.mono (by decide)) (by rfl) T.g_is_verb T.F_is_verb.kp T.b_is_verb .nil pass0 (pa_cons (pv 0) (pa_cons (pv 6) pa_nil))) (pe_one (pe_call G_is_noun (hr.mono (by decide)) (by rfl) T.g_is_noun T.F_is_noun.kp T.b_is_noun .nil pass0 (pa_cons (pv 0) (pa_cons (pv 9) pa_nil)))))))))))), ?_⟩
    have hl := DpAll.length hd
    refine ⟨_, rfl, a, xs, rfl, .inr ht, rfl, _, rfl, ?_⟩
    by_cases h8 : xs.length = 8
    · rw [h8]
      refine iteF ?_
      obtain ⟨x1, xs1, e1, ds1, rfl, rfl, d1, hd, h8⟩ := DpAll.uncons hd h8
      obtain ⟨x2, xs2, e2, ds2, rfl, rfl, d2, hd, h8⟩ := DpAll.uncons hd h8
      obtain ⟨x3, xs3, e3, ds3, rfl, rfl, d3, hd, h8⟩ := DpAll.uncons hd h8
      obtain ⟨x4, xs4, e4, ds4, rfl, rfl, d4, hd, h8⟩ := DpAll.uncons hd h8
      obtain ⟨x5, xs5, e5, ds5, rfl, rfl, d5, hd, h8⟩ := DpAll.uncons hd h8
      obtain ⟨x6, xs6, e6, ds6, rfl, rfl, d6, hd, h8⟩ := DpAll.uncons hd h8
      obtain ⟨x7, xs7, e7, ds7, rfl, rfl, d7, hd, h8⟩ := DpAll.uncons hd h8
      obtain ⟨x8, xs8, e8, ds8, rfl, rfl, d8, hd, h8⟩ := DpAll.uncons hd h8
      obtain ⟨rfl, rfl⟩ := DpAll.empty hd h8
      have shd := List.all_eq_true.mp sh
      refine ⟨_, rfl, a, _, rfl, ht, rfl, _, _, rfl, _, _, rfl, _, _, rfl, _, _, rfl, _, _, rfl, _, _, rfl, _, _, rfl, _, _, rfl, rfl, ?_⟩
      have dq : Dp K H (.ref T.a_QUANTIFIERS) (.tuple quants) := .tup (T.t_QUANTIFIERS H) (.cons (.str _) (.cons (.str _) .nil))
      have k : Q (.bl ((inW quants e2 && inW quants e7) && ((isB e4 && isB e6) && (isInt e3 0 (n - 1) && (isInt e5 0 (m - 1) && isInt e8 0 (n - 1)))))) H := k
      refine ⟨_, rfl, e2, quants, d2, dq, shd e2 (by simp), sh_quants, _, rfl, ?_⟩
      cases q2 : inW quants e2 with
      | false =>
        rw [q2] at k
        exact iteT (iteT k)
      | true =>
        rw [q2, Bool.true_and] at k
        refine iteF ⟨_, rfl, e7, quants, d7, dq, shd e7 (by simp), sh_quants, _, rfl, or_step k fun _ k => ?_⟩
        refine ⟨_, rfl, _, .ty "bool", _, _, _, rfl, .ty _, tyx d4, kitBo _, _, rfl, ?_⟩
        cases q4 : isB e4 with
        | false =>
          rw [q4] at k
          exact iteT (iteT k)
        | true =>
          rw [q4, Bool.true_and] at k
          refine iteF ⟨_, rfl, _, .ty "bool", _, _, _, rfl, .ty _, tyx d6, kitBo _, _, rfl, or_step k fun _ k => ?_⟩
          refine ⟨_, rfl, _, rfl, _, _, _, n, m, rfl, hs, d3, _, rfl, and_step k fun k => ?_⟩
          refine ⟨_, rfl, _, rfl, _, _, _, n, m, rfl, hs, d5, _, rfl, and_step k fun k => ?_⟩
          exact ⟨_, rfl, _, rfl, _, _, _, n, m, rfl, hs, d8, k⟩
    · have e0 := len_ne h8
      rw [show ((8 : Nat) : Int) = 8 from rfl] at e0
      rw [e0]
      refine iteT ?_
      have e : isVS n m ds = false := by
        rw [hl] at h8
        match ds, h8 with
        | [], _ => rfl
        | [_], _ => rfl
        | [_, _], _ => rfl
        | [_, _, _], _ => rfl
        | [_, _, _, _], _ => rfl
        | [_, _, _, _, _], _ => rfl
        | [_, _, _, _, _, _], _ => rfl
        | [_, _, _, _, _, _, _], _ => rfl
        | [_, _, _, _, _, _, _, _], h => exact absurd rfl h
        | _ :: _ :: _ :: _ :: _ :: _ :: _ :: _ :: _ :: _, _ => rfl
      rw [e] at k
      exact k
theorem ok__is_self_sentence (T : Txt K mg) : FnOk P w K mg base CX0 3 T.f__is_self_sentence T.d__is_self_sentence ["signature", "value"] (spItems K isSS) := by
  have G_is_noun := ok_is_noun (P := P) (w := w) (base := base) T
  have G_is_verb := ok_is_verb (P := P) (w := w) (base := base) T
  refine T.F__is_self_sentence.ok sc_is_self_sentence (fun vs H Q E h => ?_) (fun cdv A outer s H vs Q E hr h => ?_)
  · obtain ⟨v, n, m, a, xs, ds, rfl, _⟩ := h
    rfl
  · obtain ⟨v, n, m, a, xs, ds, rfl, hs, ht, hd, sh, k⟩ := h
    refine ⟨_, (pss_cons (ps_if (pt_cmpR op_ne (pe_callB call_len_seq (by rfl) T.n_len (by decide +kernel) (pa_cons (pv 1) pa_nil)) pe_int (nomark _)) (pss_one (ps_ret pe_bl)) pss_nil)
      (pss_cons (ps_asg (pv 1) (pg_tup rfl (pgs_cons (pg_name (i := 2) sc_is_self_sentence.nd rfl (Or.inl rfl)) (pgs_cons (pg_name (i := 3) sc_is_self_sentence.nd rfl (Or.inl rfl)) (pgs_cons (pg_name (i := 4) sc_is_self_sentence.nd rfl (Or.inl rfl)) (pgs_cons (pg_name (i := 5) sc_is_self_sentence.nd rfl (Or.inl rfl)) (pgs_cons (pg_name (i := 6) sc_is_self_sentence.nd rfl (Or.inl rfl)) pgs_nil)))))))
      (pss_cons (ps_if (PW.pt (pw_or (pt_cmpR (op_notInT hr.units2) (pv 3) (pe_glob (v := .ref T.a_QUANTIFIERS) rfl T.c_QUANTIFIERS rfl) (by rfl)) (pw_or1 (pt_not (pt_val (pe_callB call_isi (by rfl) T.n_isinstance (by decide +kernel) (pa_cons (pv 5) (pa_cons (pe_bltn (v := .ty "bool") (by rfl) T.n_bool (by decide +kernel) rfl) pa_nil)))))))) (pss_one (ps_ret pe_bl)) pss_nil)
      (pss_one (ps_ret (pe_and (pe_call G_is_noun (hr.mono (by decide)) (by rfl) T.g_is_noun T.F_is_noun.kp T.b_is_noun .nil pass0 (pa_cons (pv 0) (pa_cons (pv 4) pa_nil))) (pe_one (pe_call G_is_verb (hr.mono (by decide)) (by rfl) T.g_is_verb T.F_is_verb.kp T.b_is_verb .nil pass0 (pa_cons (pv 0) (pa_cons (pv 6) pa_nil)))))))))), ?_⟩
    have hl := DpAll.length hd
    refine ⟨_, rfl, a, xs, rfl, .inr ht, rfl, _, rfl, ?_⟩
    by_cases h8 : xs.length = 5
    · rw [h8]
      refine iteF ?_
      obtain ⟨x1, xs1, e1, ds1, rfl, rfl, d1, hd, h8⟩ := DpAll.uncons hd h8
      obtain ⟨x2, xs2, e2, ds2, rfl, rfl, d2, hd, h8⟩ := DpAll.uncons hd h8
      obtain ⟨x3, xs3, e3, ds3, rfl, rfl, d3, hd, h8⟩ := DpAll.uncons hd h8
      obtain ⟨x4, xs4, e4, ds4, rfl, rfl, d4, hd, h8⟩ := DpAll.uncons hd h8
      obtain ⟨x5, xs5, e5, ds5, rfl, rfl, d5, hd, h8⟩ := DpAll.uncons hd h8
      obtain ⟨rfl, rfl⟩ := DpAll.empty hd h8
      have shd := List.all_eq_true.mp sh
      refine ⟨_, rfl, a, _, rfl, ht, rfl, _, _, rfl, _, _, rfl, _, _, rfl, _, _, rfl, _, _, rfl, rfl, ?_⟩
      have dq : Dp K H (.ref T.a_QUANTIFIERS) (.tuple quants) := .tup (T.t_QUANTIFIERS H) (.cons (.str _) (.cons (.str _) .nil))
      have k : Q (.bl ((inW quants e2 && isB e4) && (isInt e3 0 (n - 1) && isInt e5 0 (m - 1)))) H := k
      refine ⟨_, rfl, e2, quants, d2, dq, shd e2 (by simp), sh_quants, _, rfl, ?_⟩
      cases q2 : inW quants e2 with
      | false =>
        rw [q2] at k
        exact iteT (iteT k)
      | true =>
        rw [q2, Bool.true_and] at k
        refine iteF ⟨_, rfl, _, .ty "bool", _, _, _, rfl, .ty _, tyx d4, kitBo _, _, rfl, or_step k fun _ k => ?_⟩
        refine ⟨_, rfl, _, rfl, _, _, _, n, m, rfl, hs, d3, _, rfl, and_step k fun k => ?_⟩
        exact ⟨_, rfl, _, rfl, _, _, _, n, m, rfl, hs, d5, k⟩
    · have e0 := len_ne h8
      rw [show ((5 : Nat) : Int) = 5 from rfl] at e0
      rw [e0]
      refine iteT ?_
      have e : isSS n m ds = false := by
        rw [hl] at h8
        match ds, h8 with
        | [], _ => rfl
        | [_], _ => rfl
        | [_, _], _ => rfl
        | [_, _, _], _ => rfl
        | [_, _, _, _], _ => rfl
        | [_, _, _, _, _], h => exact absurd rfl h
        | _ :: _ :: _ :: _ :: _ :: _ :: _, _ => rfl
      rw [e] at k
      exact k
def spSentence (K : PySem.W.Frag) : Sp := fun vs H Q _ => ∃ (v x : V) (d : PyData) (n m : Int), vs = [v, x] ∧ Sig K H v n m ∧ Dp K H x d ∧ shs d = true ∧ Q (.bl (isSent n m d)) H
theorem ok_is_sentence (T : Txt K mg) : FnOk P w K mg base CX0 4 T.f_is_sentence T.d_is_sentence ["signature", "value"] (spSentence K) := by
  have G_is_noun := ok_is_noun (P := P) (w := w) (base := base) T
  have G__is_verb_sentence := ok__is_verb_sentence (P := P) (w := w) (base := base) T
  have G__is_self_sentence := ok__is_self_sentence (P := P) (w := w) (base := base) T
  refine T.F_is_sentence.ok scis_sentence (fun vs H Q E h => ?_) (fun cdv A outer s H vs Q E hr h => ?_)
  · obtain ⟨v, x, d, n, m, rfl, _⟩ := h
    rfl
  · obtain ⟨v, x, d, n, m, rfl, hs, hd, sh, k⟩ := h
    refine ⟨_, (pss_cons (ps_if (PW.pt (pw_or (pt_not (pt_val (pe_callB call_isi (by rfl) T.n_isinstance (by decide +kernel) (pa_cons (pv 1) (pa_cons (pe_bltn (v := .ty "tuple") (by rfl) T.n_tuple (by decide +kernel) rfl) pa_nil))))) (pw_or1 (pt_cmpR op_eq (pe_callB call_len_seq (by rfl) T.n_len (by decide +kernel) (pa_cons (pv 1) pa_nil)) pe_int (nomark _))))) (pss_one (ps_ret pe_bl)) pss_nil)
      (pss_cons (ps_if (pt_cmpR (op_eqD hr.units) (pe_ix ix_tup (pv 1) pe_int (fun _ _ => rfl)) pe_str (nomark _)) (pss_one (ps_ret (pe_call G__is_verb_sentence (hr.mono (by decide)) (by rfl) T.g__is_verb_sentence T.F__is_verb_sentence.kp T.b__is_verb_sentence .nil pass0 (pa_cons (pv 0) (pa_cons (pv 1) pa_nil))))) pss_nil)
      (pss_cons (ps_if (pt_cmpR (op_eqD hr.units) (pe_ix ix_tup (pv 1) pe_int (fun _ _ => rfl)) pe_str (nomark _)) (pss_one (ps_ret (pe_call G__is_self_sentence (hr.mono (by decide)) (by rfl) T.g__is_self_sentence T.F__is_self_sentence.kp T.b__is_self_sentence .nil pass0 (pa_cons (pv 0) (pa_cons (pv 1) pa_nil))))) pss_nil)
      (pss_cons (ps_if (PW.pt (pw_or (pt_cmpR (op_notInT hr.units2) (pe_ix ix_tup (pv 1) pe_int (fun _ _ => rfl)) (pe_glob (v := .ref T.a_NOUN_WORDS) rfl T.c_NOUN_WORDS rfl) (by rfl)) (pw_or1 (pt_cmpR op_ne (pe_callB call_len_seq (by rfl) T.n_len (by decide +kernel) (pa_cons (pv 1) pa_nil)) pe_int (nomark _))))) (pss_one (ps_ret pe_bl)) pss_nil)
      (pss_one (ps_ret (pe_and (pe_call G_is_noun (hr.mono (by decide)) (by rfl) T.g_is_noun T.F_is_noun.kp T.b_is_noun .nil pass0 (pa_cons (pv 0) (pa_cons (pe_ix ix_tup (pv 1) pe_int (fun _ _ => rfl)) pa_nil))) (pe_one (pe_call G_is_noun (hr.mono (by decide)) (by rfl) T.g_is_noun T.F_is_noun.kp T.b_is_noun .nil pass0 (pa_cons (pv 0) (pa_cons (pe_ix ix_tup (pv 1) pe_int (fun _ _ => rfl)) pa_nil))))))))))), ?_⟩
    refine ⟨x, rfl, x, .ty "tuple", _, _, _, rfl, .ty _, tyx hd, kitT d, _, rfl, ?_⟩
    cases hd with
    | non => exact iteT (iteT k)
    | bl b => exact iteT (iteT k)
    | int i => exact iteT (iteT k)
    | str x => exact iteT (iteT k)
    | lst _ _ => exact iteT (iteT k)
    | @tup a xs ds ht ha =>
      refine iteF ⟨_, rfl, a, xs, rfl, .inr ht, rfl, _, rfl, ?_⟩
      have sh : ds.all SeqAt.shaped = true := sh
      have hl := DpAll.length ha
      cases ha with
      | nil => exact iteT k
      | @cons w0 xs1 e0 ds1 d0 ha1 =>
        have hall : DpAll K H (w0 :: xs1) (e0 :: ds1) := .cons d0 ha1
        rw [decide_eq_false (show ¬ (V.int (((w0 :: xs1).length : Nat) : Int) = V.int 0) from fun z => by have := V.int.inj z; rw [List.length_cons] at this; omega)]
        have s0 : SeqAt.shaped e0 = true := List.all_eq_true.mp sh e0 (by simp)
        refine iteF ⟨_, rfl, a, _, _, w0, rfl, rfl, ht, atI_nat (j := 0) rfl, e0, .str "verb", d0, .str _, s0, shS _, _, rfl, ?_⟩
        have k : Q (.bl (if isStr e0 "verb" = true then isVS n m (e0 :: ds1) else if isStr e0 "self" = true then isSS n m (e0 :: ds1) else isNS n (e0 :: ds1))) H := k
        by_cases w1 : isStr e0 "verb" = true
        · rw [if_pos w1] at k
          have w1' : PyData.eqv e0 (.str "verb") = true := w1
          rw [w1']
          exact iteT ⟨_, rfl, _, rfl, v, n, m, a, _, _, rfl, hs, ht, hall, sh, k⟩
        rw [if_neg w1] at k
        have w1' : PyData.eqv e0 (.str "verb") = false := Bool.eq_false_iff.mpr w1
        rw [w1']
        refine iteF ⟨_, rfl, a, _, _, w0, rfl, rfl, ht, atI_nat (j := 0) rfl, e0, .str "self", d0, .str _, s0, shS _, _, rfl, ?_⟩
        by_cases w2 : isStr e0 "self" = true
        · rw [if_pos w2] at k
          have w2' : PyData.eqv e0 (.str "self") = true := w2
          rw [w2']
          exact iteT ⟨_, rfl, _, rfl, v, n, m, a, _, _, rfl, hs, ht, hall, sh, k⟩
        rw [if_neg w2] at k
        have w2' : PyData.eqv e0 (.str "self") = false := Bool.eq_false_iff.mpr w2
        rw [w2']
        have dw : Dp K H (.ref T.a_NOUN_WORDS) (.tuple words) := .tup (T.t_NOUN_WORDS H) (.cons (.str _) (.cons (.str _) (.cons (.str _) (.cons (.str _) (.cons (.str _) (.cons (.str _) .nil))))))
        refine iteF ⟨_, rfl, a, _, _, w0, rfl, rfl, ht, atI_nat (j := 0) rfl, e0, words, d0, dw, s0, sh_words, _, rfl, ?_⟩
        by_cases q0 : inW words e0 = true
        · rw [q0]
          refine iteF ⟨_, rfl, a, _, rfl, .inr ht, rfl, _, rfl, ?_⟩
          by_cases h3 : (w0 :: xs1).length = 3
          · rw [h3]
            refine iteF ?_
            have h3 : xs1.length = 2 := by
              rw [List.length_cons] at h3
              omega
            obtain ⟨y1, ys1, f1, es1, rfl, rfl, g1, ha2, h3⟩ := DpAll.uncons ha1 h3
            obtain ⟨y2, ys2, f2, es2, rfl, rfl, g2, ha3, h3⟩ := DpAll.uncons ha2 h3
            obtain ⟨rfl, rfl⟩ := DpAll.empty ha3 h3
            have k : Q (.bl (inW words e0 && (isInt f1 0 (n - 1) && isInt f2 0 (n - 1)))) H := k
            rw [q0, Bool.true_and] at k
            refine ⟨_, rfl, _, rfl, a, _, _, y1, rfl, rfl, ht, atI_nat (j := 1) rfl, v, y1, f1, n, m, rfl, hs, g1, _, rfl, and_step k fun k => ?_⟩
            exact ⟨_, rfl, _, rfl, a, _, _, y2, rfl, rfl, ht, atI_nat (j := 2) rfl, v, y2, f2, n, m, rfl, hs, g2, k⟩
          · have e0' := len_ne h3
            rw [show ((3 : Nat) : Int) = 3 from rfl] at e0'
            rw [e0']
            refine iteT ?_
            have e : isNS n (e0 :: ds1) = false := by
              have h4 : ds1.length ≠ 2 := fun z => h3 (by rw [List.length_cons, DpAll.length ha1, z])
              match ds1, h4 with
              | [], _ => rfl
              | [_], _ => rfl
              | [_, _], h => exact absurd rfl h
              | _ :: _ :: _ :: _, _ => rfl
            rw [e] at k
            exact k
        · rw [Bool.eq_false_iff.mpr q0]
          refine iteT (iteT ?_)
          have e : isNS n (e0 :: ds1) = false := by
            match ds1 with
            | [] => rfl
            | [_] => rfl
            | [_, _] =>
              show (inW words e0 && _) = false
              rw [Bool.eq_false_iff.mpr q0, Bool.false_and]
            | _ :: _ :: _ :: _ => rfl
          rw [e] at k
          exact k
def spPremises (K : PySem.W.Frag) (P : Addr) : Sp := fun vs H Q _ => ∃ (v x : V) (d : PyData) (n m : Int), vs = [v, x] ∧ Sig K H v n m ∧ Dp K H x d ∧ shss d = true ∧ GxR.TabG H P ∧ ∀ H', Same H H' → Q (.bl (isPrem n m d)) H'
theorem ok_are_premises (T : Txt K mg) (TB_are_premises : GxR.TabB base mg T.cc_are_premises T.pp_are_premises) : FnOk P w K mg base CX0 6 T.f_are_premises T.d_are_premises ["signature", "value"] (spPremises K T.pp_are_premises) := by
  have G_is_sentence := ok_is_sentence (P := P) (w := w) (base := base) T
  refine T.FC_are_premises.ok scare_premises (fun vs H Q E h => ?_) (fun A outer s H vs Q E hr h => ?_)
  · obtain ⟨v, x, d, n, m, rfl, _⟩ := h
    rfl
  · obtain ⟨v, x, d, n, m, rfl, hs, hd, sh, tg, k⟩ := h
    refine ⟨_, (pss_cons (ps_if (PW.pt (pw_or (pt_not (pt_val (pe_callB call_isi (by rfl) T.n_isinstance (by decide +kernel) (pa_cons (pv 1) (pa_cons (pe_bltn (v := .ty "tuple") (by rfl) T.n_tuple (by decide +kernel) rfl) pa_nil))))) (pw_or1 (pt_cmpR op_gt (pe_callB call_len_seq (by rfl) T.n_len (by decide +kernel) (pa_cons (pv 1) pa_nil)) (pe_glob (v := .int 8) rfl T.c_MOST_PREMISES ⟨_, rfl⟩) (nomark _))))) (pss_one (ps_ret pe_bl)) pss_nil)
      (pss_one (ps_ret (GXX.pe_genAll (own := [("one", 2)]) (g := gName 2) rfl hr (by rfl) T.n_all TB_are_premises rfl scare_premises.nd (pi_tup (pv 1)) (blkOk_by (own := [("one", 2)]) (N := Nare_premises) (sc := defScope sare_premises) (by decide +kernel)) (by decide +kernel) rfl rfl (fun _ _ _ _ _ _ _ => pg_name (i := 2) scare_premises.nd rfl (Or.inl rfl)) (fun _ _ _ _ _ _ _ => (pe_call G_is_sentence (GXX.room_gen (k := 4) (hr.mono (by decide))) (by rfl) T.g_is_sentence T.F_is_sentence.kp T.b_is_sentence .nil pass0 (pa_cons (pv 0) (pa_cons (pv 2) pa_nil)))))))), ?_⟩
    refine ⟨x, rfl, x, .ty "tuple", _, _, _, rfl, .ty _, tyx hd, kitT d, _, rfl, ?_⟩
    cases hd with
    | non => exact iteT (iteT (k H (Same.refl H)))
    | bl b => exact iteT (iteT (k H (Same.refl H)))
    | int i => exact iteT (iteT (k H (Same.refl H)))
    | str x => exact iteT (iteT (k H (Same.refl H)))
    | lst _ _ => exact iteT (iteT (k H (Same.refl H)))
    | @tup a xs ds ht ha =>
      have hl := DpAll.length ha
      have sh : ds.all shs = true := sh
      refine iteF ⟨_, rfl, a, xs, rfl, .inr ht, _, _, rfl, rfl, _, rfl, ?_⟩
      have k : ∀ H', Same H H' → Q (.bl (decide (ds.length ≤ 8) && ds.all (isSent n m))) H' := k
      by_cases h8 : ds.length ≤ 8
      · rw [decide_eq_false (show ¬ ((8 : Int) < (xs.length : Int)) by omega)]
        rw [decide_eq_true h8, Bool.true_and] at k
        refine iteF ⟨_, rfl, a, rfl, ⟨_, ht⟩, tg, fun H2 tb => ?_⟩
        have s2 := Same.tabbed tg tb
        refine GXX.gen_tup (K := K) (xs := xs) (brk := false) (fun i H' => Same H H' ∧ (ds.take i).all (isSent n m) = true) ⟨s2, by rw [List.take_zero]; rfl⟩ (fun i H' _ hP => Same.sqT hP.1 ht) (fun i y H' hy hP => ?_) fun H' hP => ?_
        · obtain ⟨s', hall⟩ := hP
          have hi : i < ds.length := by
            rw [← hl]
            exact (List.getElem?_eq_some_iff.mp hy).1
          have ed := List.getElem?_eq_getElem hi
          obtain ⟨y', ey, dy⟩ := DpAll.get ha ed
          rw [hy] at ey
          cases ey
          refine ⟨rfl, _, rfl, _, rfl, v, y, ds[i], n, m, rfl, hs.keep s', keepD s' _ _ dy, List.all_eq_true.mp sh _ (List.getElem_mem hi), _, rfl, fun hb => ?_, fun hb => ?_⟩
          · refine ⟨s', ?_⟩
            have hb : isSent n m ds[i] = true := by
              cases e : isSent n m ds[i] with
              | true => rfl
              | false => exact absurd e hb
            rw [List.take_add_one, ed, List.all_append, hall]
            show (true && (isSent n m ds[i] && true)) = true
            rw [hb]
            rfl
          · have e : ds.all (isSent n m) = false := by
              rw [List.all_eq_false]
              exact ⟨ds[i], List.getElem_mem hi, by rw [hb]; decide⟩
            rw [e] at k
            exact k H' s'
        · obtain ⟨s', hall⟩ := hP
          rw [hl, List.take_length] at hall
          rw [hall] at k
          exact k H' s'
      · rw [decide_eq_true (show (8 : Int) < (xs.length : Int) by omega)]
        rw [decide_eq_false h8, Bool.false_and] at k
        exact iteT (k H (Same.refl H))
end
/-! ### x in a list of any data -/
section
def rInL (K : PySem.W.Frag) : R2 := fun x y H Q => ∃ d ds, Dp K H x d ∧ Dp K H y (.list ds) ∧ SeqAt.shaped d = true ∧ SeqAt.shaped (.list ds) = true ∧ Q (.bl (inW ds d)) H
theorem op_inL {X : Cx} (K : PySem.W.Frag) (h : X.K = K) (hu : X.A.units + 65 < cLine) : OpR X (compareOp .In) (rInL K) := by
  subst h
  intro pins s σ H x y v u Q I rx ry h
  obtain ⟨d, ds, hd, he, sd, se, q⟩ := h
  obtain ⟨as, r1⟩ := Dp.reads I d x v hd rx
  obtain ⟨bs, r2⟩ := Dp.reads I (.list ds) y u he ry
  exact SeqAt.in_list_reads r2 r1 (SeqAt.canLay_of_shaped se) (SeqAt.canLay_of_shaped sd) (PyProof.Rows.room_in_shaped sd hu) ⟨.bl _, H, I, rfl, q⟩
end
/-! ### the law's own tools -/
/-- all but the object at p is as it was -/
def Ext (p : Addr) (H H' : Hp) : Prop := (∀ b o, b ≠ p → H b = some o → (∀ ps, o ≠ .tbl ps) → H' b = some o) ∧ ∀ b, GxR.TabG H b → GxR.TabG H' b
def Strm (l : Addr) (H : Hp) (p : Addr) : Prop := ∃ (ns : List Int) (c k : Int), H p = some (.lst [.ref l, .int c, .int k]) ∧ H l = some (.lst (ns.map V.int)) ∧ 0 ≤ c ∧ 0 ≤ k
theorem Ext.refl (p : Addr) (H : Hp) : Ext p H H := ⟨fun _ _ _ h _ => h, fun _ h => h⟩
theorem Ext.trans {p : Addr} {H H1 H2 : Hp} (a : Ext p H H1) (b : Ext p H1 H2) : Ext p H H2 := ⟨fun c o n h t => b.1 c o n (a.1 c o n h t) t, fun c h => b.2 c (a.2 c h)⟩
theorem Ext.at {p b : Addr} {H H' : Hp} {o : HO} (e : Ext p H H') (n : b ≠ p) (h : H b = some o) (t : ∀ ps, o ≠ .tbl ps := by intro ps z; cases z) : H' b = some o := e.1 b o n h t
theorem Same.ext {p : Addr} {H H' : Hp} (s : Same H H') : Ext p H H' := ⟨fun b o _ h t => s.1 b o h t, s.2⟩
theorem ext_upd {p : Addr} {H H1 : Hp} {xs : List V} {o : HO} (e : Ext p H H1) (hp : H p = some (.lst xs)) : Ext p H (upd H1 p o) := by
  refine ⟨fun b x n h t => ?_, fun b hb => ?_⟩
  · rw [upd_ne n]
    exact e.1 b x n h t
  · obtain ⟨ps, h1, h2⟩ := hb
    obtain ⟨ps2, h3, h4⟩ := e.2 b ⟨ps, h1, h2⟩
    exact ⟨ps2, by rw [upd_ne (ne_of h1 hp (by intro z; cases z))]; exact h3, h4⟩
theorem Strm.keep {l p : Addr} {H H' : Hp} (s : Same H H') (h : Strm l H p) : Strm l H' p := by
  obtain ⟨ns, c, k, h1, h2, h3⟩ := h
  exact ⟨ns, c, k, s.at h1, s.at h2, h3⟩
theorem Ext.sqT' {K : PySem.W.Frag} {p a : Addr} {H H' : Hp} {xs ys : List V} (e : Ext p H H') (h1 : H p = some (.lst ys)) (h : SqT K H a xs) : SqT K H' a xs := by
  rcases h with (h | ⟨o, h⟩) | h
  · exact .inl (.inl (e.at (ne_of h h1 (by intro z; cases z)) h))
  · exact .inl (.inr ⟨o, e.at (ne_of h h1 (by intro z; cases z)) h⟩)
  · exact .inr h
theorem Ext.sqT {K : PySem.W.Frag} {l p a : Addr} {H H' : Hp} {xs : List V} (e : Ext p H H') (st : Strm l H p) (h : SqT K H a xs) : SqT K H' a xs := by
  obtain ⟨ns, c, k, h1, _⟩ := st
  exact e.sqT' h1 h
theorem Ext.sig {K : PySem.W.Frag} {l p : Addr} {H H' : Hp} {v : V} {n m : Int} (e : Ext p H H') (st : Strm l H p) (h : Sig K H v n m) : Sig K H' v n m := by
  obtain ⟨a, rfl, h⟩ := h
  exact ⟨a, rfl, e.sqT st h⟩
section
variable {K : PySem.W.Frag}
/-- not what the stream holds -/
def nst (xs : List V) : Prop := ∀ l c k, xs ≠ [.ref l, .int c, .int k]
def okL : List PyData → Bool
  | [.list _, .int _, .int _] => false
  | [.tuple _, .int _, .int _] => false
  | _ => true
/-- no list within that the stream's could be -/
def safe : PyData → Bool
  | .list ds => okL ds && ds.attach.all fun ⟨d, _⟩ => safe d
  | .tuple ds => ds.attach.all fun ⟨d, _⟩ => safe d
  | _ => true
theorem safe_all {ds : List PyData} : (ds.attach.all fun ⟨d, _⟩ => safe d) = true ↔ ∀ d ∈ ds, safe d = true := by
  simp [List.all_eq_true]
theorem nst_of {H : Hp} {xs : List V} {ds : List PyData} (h : DpAll K H xs ds) (o : okL ds = true) : nst xs := by
  intro l c k z
  subst z
  cases h with
  | cons h1 t =>
    cases t with
    | cons h2 t =>
      cases t with
      | cons h3 t =>
        cases t
        cases h2
        cases h3
        cases h1 <;> cases o
theorem Ext.sqL {l p a : Addr} {H H' : Hp} {xs : List V} (e : Ext p H H') (st : Strm l H p) (h3 : nst xs) (h : SqL K H a xs) : SqL K H' a xs := by
  obtain ⟨ns, c, k, h1, _⟩ := st
  rcases h with (h | ⟨o, h⟩) | h
  · exact .inl (.inl (e.at (ne_of h h1 (by intro z; exact h3 _ _ _ (HO.lst.inj z))) h))
  · exact .inl (.inr ⟨o, e.at (ne_of h h1 (by intro z; cases z)) h⟩)
  · exact .inr h
mutual
theorem keepX {l p : Addr} {H H' : Hp} (e : Ext p H H') (st : Strm l H p) : ∀ (d : PyData) (v : V), safe d = true → Dp K H v d → Dp K H' v d
  | .none, _, _, .non => .non
  | .bool _, _, _, .bl b => .bl b
  | .int _, _, _, .int i => .int i
  | .str _, _, _, .str x => .str x
  | .list ds, _, q, .lst h a => by
    unfold safe at q
    rw [Bool.and_eq_true] at q
    exact .lst (e.sqL st (nst_of a q.1) h) (keepXs e st ds _ (safe_all.mp q.2) a)
  | .tuple ds, _, q, .tup h a => by
    unfold safe at q
    exact .tup (e.sqT st h) (keepXs e st ds _ (safe_all.mp q) a)
theorem keepXs {l p : Addr} {H H' : Hp} (e : Ext p H H') (st : Strm l H p) : ∀ (ds : List PyData) (vs : List V), (∀ d ∈ ds, safe d = true) → DpAll K H vs ds → DpAll K H' vs ds
  | [], _, _, .nil => .nil
  | d :: ds, _, q, .cons h t => .cons (keepX e st d _ (q d List.mem_cons_self) h) (keepXs e st ds _ (fun x hx => q x (List.mem_cons_of_mem _ hx)) t)
end
theorem cut_last {xs : List V} (hk : 1 ≤ xs.length) : cutV xs none (some (-1)) = xs.take (xs.length - 1) := by
  unfold cutV
  have e : HT.sIx xs.length xs.length (some (-1)) = xs.length - 1 := by
    show (if (-1 : Int) < 0 then ((-1 : Int) + (xs.length : Int)).toNat else min (-1 : Int).toNat xs.length) = _
    rw [if_pos (by decide)]
    omega
  rw [e, HT.sIx_none]
  simp
end
section
variable {P : Program} {w : World} {K : PySem.W.Frag} {mg : Str → Option Value} {base : Heap}
def spStream (K : PySem.W.Frag) : Sp := fun vs H Q _ => ∃ (a : Addr) (ns : List Int), vs = [.ref a] ∧ SqL K H a (ns.map V.int) ∧ ∀ H' p l, Same H H' → Strm l H' p → Q (.ref p) H'
theorem ok__law_stream (T : Txt K mg) : FnOk P w K mg base CX0 1 T.f__law_stream T.d__law_stream ["script"] (spStream K) := by
  refine T.F__law_stream.ok sc_law_stream (fun vs H Q E h => ?_) (fun cdv A outer s H vs Q E hr h => ?_)
  · obtain ⟨a, ns, rfl, _⟩ := h
    rfl
  · obtain ⟨a, ns, rfl, hS, k⟩ := h
    refine ⟨_, (pss_one (ps_ret (pe_lst (pa_cons (pe_callTy call_list_of (by rfl) T.n_list (by decide +kernel) (pa_cons (pv 0) pa_nil)) (pa_cons pe_int (pa_cons pe_int pa_nil)))))), ?_⟩
    refine ⟨_, rfl, a, _, rfl, .inl hS, fun l nl => ⟨by show 3 ≤ sizeLine; decide, fun p np => k _ _ _ ((same_upd nl).trans (same_upd np)) ⟨ns, 0, 0, upd_same, ?_, Int.le_refl _, Int.le_refl _⟩⟩⟩
    have nlp : l ≠ p := fun e => by
      rw [← e, upd_same] at np
      cases np
    rw [upd_ne nlp, upd_same]
def spNext (K : PySem.W.Frag) : Sp := fun vs H Q _ => ∃ (p l : Addr) (m : Int), vs = [.ref p, .int m] ∧ Strm l H p ∧ 0 < m ∧ m < 1073741824 ∧ ∀ H' d, Ext p H H' → Strm l H' p → 0 ≤ d → d < m → Q (.int d) H'
theorem ok__law_next (T : Txt K mg) : FnOk P w K mg base CX0 1 T.f__law_next T.d__law_next ["stream", "many"] (spNext K) := by
  refine T.F__law_next.ok sc_law_next (fun vs H Q E h => ?_) (fun cdv A outer s H vs Q E hr h => ?_)
  · obtain ⟨p, l, m, rfl, _⟩ := h
    rfl
  · obtain ⟨p, l, m, rfl, ⟨ns, c, i, hp, hl, hc, hi⟩, hm, hm2, k⟩ := h
    have nlp : l ≠ p := fun e => by
      rw [e, hp] at hl
      have z := HO.lst.inj (Option.some.inj hl)
      cases ns with
      | nil => cases z
      | cons _ _ =>
        rw [List.map_cons] at z
        injection z with z1 _
        cases z1
    have hp0 := hp
    refine ⟨_, (pss_cut (ps_if (pt_cmpR op_eq (pe_ix ix_list (pv 0) pe_int (fun _ _ => rfl)) pe_int (nomark _)) (pss_cons (ps_set (i := 2) sc_law_next.nd rfl (Or.inl rfl) (pe_ix ix_list (pv 0) pe_int (fun _ _ => rfl)))
      (pss_cons (ps_set (i := 3) sc_law_next.nd rfl (Or.inl rfl) (pe_op op_add pe_int (pv 2)))
      (pss_cut (ps_if (pt_cmpR op_lt (pv 2) (pe_callB call_len_seq (by rfl) T.n_len (by decide +kernel) (pa_cons (pe_ix ix_list (pv 0) pe_int (fun _ _ => rfl)) pa_nil)) (nomark _)) (pss_one (ps_set (i := 3) sc_law_next.nd rfl (Or.inl rfl) (pe_callB call_abs (by rfl) T.n_abs (by decide +kernel) (pa_cons (pe_ix ix_list (pe_ix ix_list (pv 0) pe_int (fun _ _ => rfl)) (pv 2) (fun _ _ => rfl)) pa_nil)))) pss_nil)
      (pss_cut (ps_if (pt_cmpR op_lt (pv 3) (pe_op op_pow pe_int pe_int) (nomark _)) (pss_cons (ps_set (i := 3) sc_law_next.nd rfl (Or.inl rfl) (pe_op op_mod (pe_callTy call_int1 (by rfl) T.n_int (by decide +kernel) (pa_cons (pe_op op_add (pe_op op_add (pe_op op_mul (pv 3) pe_int) (pe_op op_mul (pv 2) pe_int)) pe_int) pa_nil)) pe_int))
      (pss_one (ps_set (i := 3) sc_law_next.nd rfl (Or.inl rfl) (pe_op op_add (pe_op op_mul (pe_op op_mod (pe_callTy call_int1 (by rfl) T.n_int (by decide +kernel) (pa_cons (pe_op op_add (pe_op op_mul (pv 3) pe_int) pe_int) pa_nil)) pe_int) pe_int) (pv 3))))) pss_nil)
      (pss_cons (ps_asg (pv 3) (pg_sub (pv 0) pe_int set_list))
      (pss_one (ps_asg (pe_op op_add (pv 2) pe_int) (pg_sub (pv 0) pe_int set_list)))))))) pss_nil)
      (pss_cons (ps_set (i := 4) sc_law_next.nd rfl (Or.inl rfl) (pe_op op_mod (pe_callTy call_int1 (by rfl) T.n_int (by decide +kernel) (pa_cons (pe_ix ix_list (pv 0) pe_int (fun _ _ => rfl)) pa_nil)) (pv 1)))
      (pss_cons (ps_asg (pe_op op_fdiv (pe_ix ix_list (pv 0) pe_int (fun _ _ => rfl)) (pv 1)) (pg_sub (pv 0) pe_int set_list))
      (pss_one (ps_ret (pv 4)))))), ?_⟩
    refine ⟨fun σ' H' => ∃ y z c i, σ' = [some (.ref p), some (.int m), y, z, none] ∧ Ext p H H' ∧ H' p = some (.lst [.ref l, .int c, .int i]) ∧ H' l = some (.lst (ns.map V.int)) ∧ 0 ≤ c ∧ 0 ≤ i, ?_, ?_⟩
    · refine ⟨_, rfl, p, _, _, _, rfl, rfl, .of hp, atI_nat (j := 1) rfl, rfl, _, rfl, ite2 (fun _ => ?_) (fun _ => ⟨none, none, c, i, rfl, Ext.refl _ _, hp, hl, hc, hi⟩)⟩
      refine ⟨_, rfl, p, _, _, _, rfl, rfl, .of hp, atI_nat (j := 2) rfl, .int i, rfl, 7, i, rfl, rfl, ?_⟩
      refine ⟨fun σ' H' => ∃ c1, σ' = [some (.ref p), some (.int m), some (.int i), some (.int c1), none] ∧ 0 ≤ c1 ∧ H = H', ?_, ?_⟩
      · refine ⟨_, rfl, _, rfl, p, _, _, _, rfl, rfl, .of hp, atI_nat (j := 0) rfl, l, _, rfl, .inl (.of hl), i, _, rfl, rfl, _, rfl, ite2 (fun e => ?_) (fun _ => ⟨7 + i, rfl, by omega, rfl⟩)⟩
        have e1 := of_decide_eq_true e
        rw [List.length_map] at e1
        obtain ⟨j, rfl⟩ := Int.eq_ofNat_of_zero_le hi
        have hj : j < ns.length := by omega
        have hat : atI (ns.map V.int) (j : Int) = some (.int ns[j]) := atI_nat (by rw [List.getElem?_map, List.getElem?_eq_getElem hj]; rfl)
        exact ⟨_, rfl, p, _, _, _, rfl, rfl, .of hp, atI_nat (j := 0) rfl, _, rfl, l, _, _, _, rfl, rfl, .of hl, hat, _, rfl, _, rfl, by split <;> omega, rfl⟩
      · rintro _ _ ⟨c1, rfl, h1, rfl⟩
        refine ⟨fun σ' H' => ∃ c1, σ' = [some (.ref p), some (.int m), some (.int i), some (.int c1), none] ∧ 0 ≤ c1 ∧ H = H', ?_, ?_⟩
        · refine ⟨_, rfl, 10, 18, rfl, rfl, by unfold CPow; decide, _, _, rfl, rfl, _, rfl, ite2 (fun _ => ?_) (fun _ => ⟨c1, rfl, h1, rfl⟩)⟩
          refine ⟨_, rfl, c1, 48271, rfl, rfl, .inr (by decide), _, rfl, i, 69621, rfl, rfl, .inr (by decide), _, _, rfl, rfl, _, _, rfl, rfl, .inl ⟨_, rfl, _, _, rfl, rfl, (by show (0 : Int) < 2147483647; decide), ?_⟩⟩
          refine ⟨_, rfl, _, 16807, rfl, rfl, .inr (by decide), _, _, rfl, rfl, .inl ⟨_, rfl, _, _, rfl, rfl, (by show (0 : Int) < 2147483647; decide), _, _, rfl, rfl, .inr (by decide), _, rfl, _, _, rfl, rfl, _, rfl, ?_, rfl⟩⟩
          omega
        · rintro _ _ ⟨c2, rfl, h2, rfl⟩
          refine ⟨_, rfl, _, rfl, p, _, 1, 1, rfl, rfl, hp, rfl, _, rfl, i, 1, rfl, rfl, _, rfl, p, _, 2, 2, rfl, rfl, upd_same, rfl, _, _, c2, i + 1, rfl, ext_upd (ext_upd (Ext.refl p H) hp) hp, ?_, ?_, h2, by omega⟩
          · rw [upd_same]
            rfl
          · rw [upd_ne nlp, upd_ne nlp]
            exact hl
    · rintro _ H1 ⟨y, z, c, i, rfl, ex, hp, hl, hc, hi⟩
      refine ⟨_, rfl, p, _, _, _, rfl, rfl, .of hp, atI_nat (j := 1) rfl, .inl ⟨_, rfl, _, rfl, _, _, rfl, rfl, hm, ?_⟩⟩
      refine ⟨_, rfl, p, _, _, _, rfl, rfl, .of hp, atI_nat (j := 1) rfl, _, rfl, _, _, rfl, rfl, ⟨hm, hm2⟩, _, rfl, p, _, 1, 1, rfl, rfl, hp, rfl, _, rfl, ?_⟩
      refine k _ _ (ext_upd ex hp0) ⟨ns, c / m, i, ?_, ?_, ?_, hi⟩ (Int.emod_nonneg _ (by omega)) (Int.emod_lt_of_pos _ hm)
      · rw [upd_same]
        rfl
      · rw [upd_ne nlp]
        exact hl
      · exact Int.ediv_nonneg hc (by omega)
def spIsInteger (K : PySem.W.Frag) : Sp := fun vs H Q _ => ∃ (v : V) (d : PyData), vs = [v] ∧ Dp K H v d ∧ Q (.bl (isI d && !isB d)) H
theorem ok__law_is_integer (T : Txt K mg) : FnOk P w K mg base CX0 1 T.f__law_is_integer T.d__law_is_integer ["actual"] (spIsInteger K) := by
  refine T.F__law_is_integer.ok sc_law_is_integer (fun vs H Q E h => ?_) (fun cdv A outer s H vs Q E hr h => ?_)
  · obtain ⟨v, d, rfl, _⟩ := h
    rfl
  · obtain ⟨v, d, rfl, hd, k⟩ := h
    refine ⟨_, (pss_one (ps_ret (pe_and (pe_callB call_isi (by rfl) T.n_isinstance (by decide +kernel) (pa_cons (pv 0) (pa_cons (pe_bltn (v := .ty "int") (by rfl) T.n_int (by decide +kernel) rfl) pa_nil))) (pe_one (pe_not (pe_callB call_isi (by rfl) T.n_isinstance (by decide +kernel) (pa_cons (pv 0) (pa_cons (pe_bltn (v := .ty "bool") (by rfl) T.n_bool (by decide +kernel) rfl) pa_nil)))))))), ?_⟩
    refine ⟨_, rfl, _, .ty "int", _, _, _, rfl, .ty _, tyx hd, kitI _, _, rfl, and_step2 k fun _ k => ?_⟩
    exact ⟨_, rfl, _, .ty "bool", _, _, _, rfl, .ty _, tyx hd, kitBo _, _, rfl, k⟩
end
section
variable {P : Program} {w : World} {K : PySem.W.Frag} {mg : Str → Option Value} {base : Heap}
def spEqual (n : Nat) (K : PySem.W.Frag) : Sp := fun vs H Q _ => ∃ (v u : V) (d : PyData), vs = [v, u] ∧ Dp K H v d ∧ Dp K H u d ∧ dep n d = true ∧ ∀ H', Same H H' → Q (.bl true) H'
theorem dself {v : V} {H : Hp} {Q : VK} (k : Q (.bl true) H) : Q (.bl (decide (v = v))) H := by
  rw [decide_eq_true rfl]
  exact k
theorem ok__law_equal (T : Txt K mg) : ∀ n, FnOk P w K mg base CX0 (n + 1) T.f__law_equal T.d__law_equal ["actual", "due"] (spEqual n K) := by
  have G__law_is_integer := ok__law_is_integer (P := P) (w := w) (base := base) T
  intro n
  induction n with
  | zero =>
    refine ⟨fun vs H Q E h => ?_, fun A outer s H args us vs Q E hr he hb hv h => ?_⟩
    · obtain ⟨v, u, d, rfl, _⟩ := h
      rfl
    · obtain ⟨v, u, d, _, _, _, h, _⟩ := h
      exact absurd h (by unfold dep; decide)
  | succ n ih =>
    have G__law_equal := ih
    refine T.F__law_equal.ok sc_law_equal (fun vs H Q E h => ?_) (fun cdv A outer s H vs Q E hr h => ?_)
    · obtain ⟨v, u, d, rfl, _⟩ := h
      rfl
    · obtain ⟨v, u, d, rfl, hv, hu, hn, k⟩ := h
      refine ⟨_, (pss_cons (ps_if (pt_cmpR op_isN (pv 1) pe_non (nomark _)) (pss_one (ps_ret (pe_cmpR op_isN (pv 0) pe_non (nomark _)))) pss_nil)
      (pss_cons (ps_if (pt_val (pe_callB call_isi (by rfl) T.n_isinstance (by decide +kernel) (pa_cons (pv 1) (pa_cons (pe_bltn (v := .ty "bool") (by rfl) T.n_bool (by decide +kernel) rfl) pa_nil)))) (pss_one (ps_ret (pe_and (pe_callB call_isi (by rfl) T.n_isinstance (by decide +kernel) (pa_cons (pv 0) (pa_cons (pe_bltn (v := .ty "bool") (by rfl) T.n_bool (by decide +kernel) rfl) pa_nil))) (pe_one (pe_cmpR op_eq (pv 0) (pv 1) (nomark _)))))) pss_nil)
      (pss_cons (ps_if (pt_val (pe_callB call_isi (by rfl) T.n_isinstance (by decide +kernel) (pa_cons (pv 1) (pa_cons (pe_bltn (v := .ty "int") (by rfl) T.n_int (by decide +kernel) rfl) pa_nil)))) (pss_one (ps_ret (pe_and (pe_call G__law_is_integer (hr.mono (by omega)) (by rfl) T.g__law_is_integer T.F__law_is_integer.kp T.b__law_is_integer .nil pass0 (pa_cons (pv 0) pa_nil)) (pe_one (pe_cmpR op_eq (pv 0) (pv 1) (nomark _)))))) pss_nil)
      (pss_cons (ps_if (pt_val (pe_callB call_isi (by rfl) T.n_isinstance (by decide +kernel) (pa_cons (pv 1) (pa_cons (pe_bltn (v := .ty "str") (by rfl) T.n_str (by decide +kernel) rfl) pa_nil)))) (pss_one (ps_ret (pe_and (pe_callB call_isi (by rfl) T.n_isinstance (by decide +kernel) (pa_cons (pv 0) (pa_cons (pe_bltn (v := .ty "str") (by rfl) T.n_str (by decide +kernel) rfl) pa_nil))) (pe_one (pe_cmpR op_eq (pv 0) (pv 1) (nomark _)))))) pss_nil)
      (pss_cons (ps_if (PW.pt (pw_and (pt_val (pe_callB call_isi (by rfl) T.n_isinstance (by decide +kernel) (pa_cons (pv 1) (pa_cons (pe_bltn (v := .ty "tuple") (by rfl) T.n_tuple (by decide +kernel) rfl) pa_nil)))) (pw_and1 (pt_not (pt_val (pe_callB call_isi (by rfl) T.n_isinstance (by decide +kernel) (pa_cons (pv 0) (pa_cons (pe_bltn (v := .ty "tuple") (by rfl) T.n_tuple (by decide +kernel) rfl) pa_nil)))))))) (pss_one (ps_ret pe_bl)) pss_nil)
      (pss_cons (ps_if (PW.pt (pw_and (pt_val (pe_callB call_isi (by rfl) T.n_isinstance (by decide +kernel) (pa_cons (pv 1) (pa_cons (pe_bltn (v := .ty "list") (by rfl) T.n_list (by decide +kernel) rfl) pa_nil)))) (pw_and1 (pt_not (pt_val (pe_callB call_isi (by rfl) T.n_isinstance (by decide +kernel) (pa_cons (pv 0) (pa_cons (pe_bltn (v := .ty "list") (by rfl) T.n_list (by decide +kernel) rfl) pa_nil)))))))) (pss_one (ps_ret pe_bl)) pss_nil)
      (pss_cons (ps_if (pt_cmpR op_ne (pe_callB call_len_seq (by rfl) T.n_len (by decide +kernel) (pa_cons (pv 0) pa_nil)) (pe_callB call_len_seq (by rfl) T.n_len (by decide +kernel) (pa_cons (pv 1) pa_nil)) (nomark _)) (pss_one (ps_ret pe_bl)) pss_nil)
      (pss_one (ps_ret (pe_callB (cr_all rfl) (by rfl) T.n_all (by decide +kernel) (pa_cons (pe_lc (own := [("at", 2)]) (g := gName 2) (tt := tYes) rfl sc_law_equal.nd (pi_range1 (by rfl) T.n_range (pa_cons (pe_callB call_len_seq (by rfl) T.n_len (by decide +kernel) (pa_cons (pv 1) pa_nil)) pa_nil)) (blkOk_by (own := [("at", 2)]) (N := N_law_equal) (sc := defScope s_law_equal) (by decide +kernel)) (fun _ _ _ _ _ => pg_name (i := 2) sc_law_equal.nd rfl (Or.inl rfl)) (fun _ _ _ _ _ => pts_nil) (fun _ _ _ _ _ => (pe_call G__law_equal (hr.mono (by omega)) (by rfl) T.g__law_equal T.F__law_equal.kp T.b__law_equal .nil pass0 (pa_cons (pe_ix (kq_ix K rfl) (pv 0) (pv 2) (fun _ _ => rfl)) (pa_cons (pe_ix (kq_ix K rfl) (pv 1) (pv 2) (fun _ _ => rfl)) pa_nil))))) pa_nil))))))))))), ?_⟩
      have lists : ∀ (a b : Addr) (xs ys : List V) (ds : List PyData), DpAll K H xs ds → DpAll K H ys ds → ds.length ≤ 1000 → ds.all (dep n) = true → (SqL K H a xs ∧ SqL K H b ys ∨ SqT K H a xs ∧ SqT K H b ys) →
          (SqL K H b ys ∨ SqT K H b ys) ∧ (SqL K H a xs ∨ SqT K H a xs) ∧ xs.length = ds.length ∧ ys.length = ds.length ∧ ∀ (i : Nat) (H1 : Hp), i < ds.length → Same H H1 → ∃ x y d, atI xs (0 + (i : Int)) = some x ∧ atI ys (0 + (i : Int)) = some y ∧ Dp K H1 x d ∧ Dp K H1 y d ∧ dep n d = true ∧
            (∀ Q : VK, Q x H1 → rIx K (.ref a) (.int (0 + (i : Int))) H1 Q) ∧ (∀ Q : VK, Q y H1 → rIx K (.ref b) (.int (0 + (i : Int))) H1 Q) := by
        intro a b xs ys ds hx hy hl hd hq
        refine ⟨hq.elim (fun q => .inl q.2) fun q => .inr q.2, hq.elim (fun q => .inl q.1) fun q => .inr q.1, DpAll.length hx, DpAll.length hy, fun i H1 hi s1 => ?_⟩
        have e := List.getElem?_eq_getElem hi
        obtain ⟨x, ex, dx⟩ := DpAll.get hx e
        obtain ⟨y, ey, dy⟩ := DpAll.get hy e
        have ax : atI xs (0 + (i : Int)) = some x := at_of (by omega) ex
        have ay : atI ys (0 + (i : Int)) = some y := at_of (by omega) ey
        refine ⟨x, y, ds[i], ax, ay, keepD s1 _ _ dx, keepD s1 _ _ dy, List.all_eq_true.mp hd _ (List.getElem_mem hi), fun Q q => ?_, fun Q q => ?_⟩
        · rcases hq with ⟨h1, _⟩ | ⟨h1, _⟩
          · exact ixL (s1.seq h1) ax q
          · exact ixT (Same.sqT s1 h1) ax q
        · rcases hq with ⟨_, h1⟩ | ⟨_, h1⟩
          · exact ixL (s1.seq h1) ay q
          · exact ixT (Same.sqT s1 h1) ay q
      cases hu with
      | non =>
        cases hv with
        | non => exact ⟨_, rfl, rfl, _, rfl, iteT ⟨_, rfl, rfl, k _ (Same.refl _)⟩⟩
      | bl b =>
        cases hv with
        | bl =>
          refine ⟨_, rfl, rfl, _, rfl, iteF ?_⟩
          refine ⟨_, rfl, _, .ty "bool", _, _, _, rfl, .ty _, tyx (.bl b), kitBo _, _, rfl, iteT ?_⟩
          exact ⟨_, rfl, _, .ty "bool", _, _, _, rfl, .ty _, tyx (.bl b), kitBo _, _, rfl, iteT ⟨_, rfl, _, rfl, rfl, dself (k _ (Same.refl _))⟩⟩
      | int i =>
        cases hv with
        | int =>
          refine ⟨_, rfl, rfl, _, rfl, iteF ?_⟩
          refine ⟨_, rfl, _, .ty "bool", _, _, _, rfl, .ty _, tyx (.int i), kitBo _, _, rfl, iteF ?_⟩
          refine ⟨_, rfl, _, .ty "int", _, _, _, rfl, .ty _, tyx (.int i), kitI _, _, rfl, iteT ?_⟩
          exact ⟨_, rfl, _, _, rfl, .int i, _, rfl, iteT ⟨_, rfl, _, rfl, rfl, dself (k _ (Same.refl _))⟩⟩
      | str x =>
        cases hv with
        | str =>
          refine ⟨_, rfl, rfl, _, rfl, iteF ?_⟩
          refine ⟨_, rfl, _, .ty "bool", _, _, _, rfl, .ty _, tyx (.str x), kitBo _, _, rfl, iteF ?_⟩
          refine ⟨_, rfl, _, .ty "int", _, _, _, rfl, .ty _, tyx (.str x), kitI _, _, rfl, iteF ?_⟩
          refine ⟨_, rfl, _, .ty "str", _, _, _, rfl, .ty _, tyx (.str x), kitS _, _, rfl, iteT ?_⟩
          exact ⟨_, rfl, _, .ty "str", _, _, _, rfl, .ty _, tyx (.str x), kitS _, _, rfl, iteT ⟨_, rfl, _, rfl, rfl, dself (k _ (Same.refl _))⟩⟩
      | @lst b ys ds hb hy =>
        cases hv with
        | @lst a xs _ ha hx =>
          have hn2 : (decide (ds.length ≤ 1000) && ds.all (dep n)) = true := hn
          rw [Bool.and_eq_true] at hn2
          have hl := of_decide_eq_true hn2.1
          obtain ⟨qb, qa, lx, ly, item⟩ := lists a b xs ys ds hx hy hl hn2.2 (.inl ⟨ha, hb⟩)
          have td := tyx (K := K) (.lst hb hy)
          have ta := tyx (K := K) (.lst ha hx)
          refine ⟨_, rfl, rfl, _, rfl, iteF ?_⟩
          refine ⟨_, rfl, _, .ty "bool", _, _, _, rfl, .ty _, td, kitBo _, _, rfl, iteF ?_⟩
          refine ⟨_, rfl, _, .ty "int", _, _, _, rfl, .ty _, td, kitI _, _, rfl, iteF ?_⟩
          refine ⟨_, rfl, _, .ty "str", _, _, _, rfl, .ty _, td, kitS _, _, rfl, iteF ?_⟩
          refine ⟨_, rfl, _, .ty "tuple", _, _, _, rfl, .ty _, td, kitT _, _, rfl, iteF (iteF ?_)⟩
          refine ⟨_, rfl, _, .ty "list", _, _, _, rfl, .ty _, td, kitL _, _, rfl, iteT ⟨_, rfl, _, .ty "list", _, _, _, rfl, .ty _, ta, kitL _, _, rfl, iteF ?_⟩⟩
          refine ⟨_, rfl, a, xs, rfl, qa, _, rfl, b, ys, rfl, qb, rfl, _, rfl, ?_⟩
          rw [lx, ly, decide_eq_true rfl]
          refine iteF ⟨_, rfl, b, ys, rfl, qb, _, rfl, by omega, by omega, fun D nD => lc_range (lo := 0) (n := ys.length) (fun i H1 => Same H H1 ∧ H1 D = some (.lst (List.replicate i (.bl true)))) ⟨same_upd nD, upd_same⟩ (fun i H1 hi hP => ?_) fun H1 hP => ?_⟩
          · obtain ⟨s1, hD⟩ := hP
            obtain ⟨x, y, d, ax, ay, dx, dy, dn, rx, ry⟩ := item i H1 (by omega) s1
            refine ⟨rfl, _, rfl, _, rfl, rx _ ⟨_, rfl, _, rfl, ry _ ⟨x, y, d, rfl, dx, dy, dn, fun H2 s2 => ⟨_, s2.at hD, ?_, same_fresh (s1.trans s2) nD, ?_⟩⟩⟩⟩
            · rw [List.length_replicate]
              exact small1000 (by omega)
            · rw [upd_same, List.replicate_succ']
          · obtain ⟨s1, hD⟩ := hP
            have e : List.replicate ys.length (V.bl true) = (List.replicate ys.length true).map V.bl := by rw [List.map_replicate]
            rw [e] at hD
            refine ⟨D, List.replicate ys.length true, rfl, .of hD, ?_⟩
            have e2 : (List.replicate ys.length true).all id = true := by
              rw [List.all_eq_true]
              intro z hz
              rw [List.mem_replicate] at hz
              rw [hz.2]
              rfl
            rw [e2]
            exact k _ s1
      | @tup b ys ds hb hy =>
        cases hv with
        | @tup a xs _ ha hx =>
          have hn2 : (decide (ds.length ≤ 1000) && ds.all (dep n)) = true := hn
          rw [Bool.and_eq_true] at hn2
          have hl := of_decide_eq_true hn2.1
          obtain ⟨qb, qa, lx, ly, item⟩ := lists a b xs ys ds hx hy hl hn2.2 (.inr ⟨ha, hb⟩)
          have td := tyx (K := K) (.tup hb hy)
          have ta := tyx (K := K) (.tup ha hx)
          refine ⟨_, rfl, rfl, _, rfl, iteF ?_⟩
          refine ⟨_, rfl, _, .ty "bool", _, _, _, rfl, .ty _, td, kitBo _, _, rfl, iteF ?_⟩
          refine ⟨_, rfl, _, .ty "int", _, _, _, rfl, .ty _, td, kitI _, _, rfl, iteF ?_⟩
          refine ⟨_, rfl, _, .ty "str", _, _, _, rfl, .ty _, td, kitS _, _, rfl, iteF ?_⟩
          refine ⟨_, rfl, _, .ty "tuple", _, _, _, rfl, .ty _, td, kitT _, _, rfl, iteT ⟨_, rfl, _, .ty "tuple", _, _, _, rfl, .ty _, ta, kitT _, _, rfl, iteF ?_⟩⟩
          refine ⟨_, rfl, _, .ty "list", _, _, _, rfl, .ty _, td, kitL _, _, rfl, iteF (iteF ?_)⟩
          refine ⟨_, rfl, a, xs, rfl, qa, _, rfl, b, ys, rfl, qb, rfl, _, rfl, ?_⟩
          rw [lx, ly, decide_eq_true rfl]
          refine iteF ⟨_, rfl, b, ys, rfl, qb, _, rfl, by omega, by omega, fun D nD => lc_range (lo := 0) (n := ys.length) (fun i H1 => Same H H1 ∧ H1 D = some (.lst (List.replicate i (.bl true)))) ⟨same_upd nD, upd_same⟩ (fun i H1 hi hP => ?_) fun H1 hP => ?_⟩
          · obtain ⟨s1, hD⟩ := hP
            obtain ⟨x, y, d, ax, ay, dx, dy, dn, rx, ry⟩ := item i H1 (by omega) s1
            refine ⟨rfl, _, rfl, _, rfl, rx _ ⟨_, rfl, _, rfl, ry _ ⟨x, y, d, rfl, dx, dy, dn, fun H2 s2 => ⟨_, s2.at hD, ?_, same_fresh (s1.trans s2) nD, ?_⟩⟩⟩⟩
            · rw [List.length_replicate]
              exact small1000 (by omega)
            · rw [upd_same, List.replicate_succ']
          · obtain ⟨s1, hD⟩ := hP
            have e : List.replicate ys.length (V.bl true) = (List.replicate ys.length true).map V.bl := by rw [List.map_replicate]
            rw [e] at hD
            refine ⟨D, List.replicate ys.length true, rfl, .of hD, ?_⟩
            have e2 : (List.replicate ys.length true).all id = true := by
              rw [List.all_eq_true]
              intro z hz
              rw [List.mem_replicate] at hz
              rw [hz.2]
              rfl
            rw [e2]
            exact k _ s1
end
section
variable {K : PySem.W.Frag}
theorem DpAll.mem {H : Hp} : ∀ {xs : List V} {ds : List PyData} {i : Nat} {x : V}, DpAll K H xs ds → xs[i]? = some x → ∃ d, ds[i]? = some d ∧ Dp K H x d
  | _, _, _, _, .nil, e => nomatch e
  | _, _, 0, _, .cons h _, e => by
    have e1 := Option.some.inj e
    subst e1
    exact ⟨_, rfl, h⟩
  | _, _, i + 1, _, .cons _ t, e => by
    obtain ⟨x, h1, h2⟩ := DpAll.mem (i := i) t (by simpa using e)
    exact ⟨x, by simpa using h1, h2⟩
theorem ext_fresh {p D : Addr} {H H1 : Hp} {o : HO} (e : Ext p H H1) (h : H D = none) : Ext p H (upd H1 D o) := by
  refine ⟨fun b x n hb t => ?_, fun b hb => ?_⟩
  · rw [upd_ne (ne_of_none hb h)]
    exact e.1 b x n hb t
  · obtain ⟨ps, h1, h2⟩ := hb
    obtain ⟨ps2, h3, h4⟩ := e.2 b ⟨ps, h1, h2⟩
    exact ⟨ps2, by rw [upd_ne (ne_of_none h1 h)]; exact h3, h4⟩
theorem Strm.upd {l p D : Addr} {H : Hp} {o : HO} (h : Strm l H p) (n1 : p ≠ D) (n2 : l ≠ D) : Strm l (upd H D o) p := by
  obtain ⟨ns, c, k, h1, h2, h3⟩ := h
  exact ⟨ns, c, k, by rw [upd_ne n1]; exact h1, by rw [upd_ne n2]; exact h2, h3⟩
theorem Strm.ne {l p D : Addr} {H : Hp} (h : Strm l H p) (n : H D = none) : p ≠ D ∧ l ≠ D := by
  obtain ⟨ns, c, k, h1, h2, h3⟩ := h
  exact ⟨ne_of_none h1 n, ne_of_none h2 n⟩
mutual
def noL : PyData → Bool
  | .list _ => false
  | .tuple ds => noLs ds
  | _ => true
def noLs : List PyData → Bool
  | [] => true
  | d :: ds => noL d && noLs ds
end
mutual
theorem keepN {p : Addr} {H H' : Hp} {ys : List V} (e : Ext p H H') (hp : H p = some (.lst ys)) : ∀ (d : PyData) (v : V), noL d = true → Dp K H v d → Dp K H' v d
  | .none, _, _, .non => .non
  | .bool _, _, _, .bl b => .bl b
  | .int _, _, _, .int i => .int i
  | .str _, _, _, .str x => .str x
  | .list _, _, q, _ => by
    unfold noL at q
    cases q
  | .tuple ds, _, q, .tup h a => by
    unfold noL at q
    exact .tup (e.sqT' hp h) (keepNs e hp ds _ q a)
theorem keepNs {p : Addr} {H H' : Hp} {ys : List V} (e : Ext p H H') (hp : H p = some (.lst ys)) : ∀ (ds : List PyData) (vs : List V), noLs ds = true → DpAll K H vs ds → DpAll K H' vs ds
  | [], _, _, .nil => .nil
  | d :: ds, _, q, .cons h t => by
    unfold noLs at q
    rw [Bool.and_eq_true] at q
    exact .cons (keepN e hp d _ q.1 h) (keepNs e hp ds _ q.2 t)
end
theorem dp_str {H : Hp} {v : V} {x : Str} (h : Dp K H v (.str x)) : v = .str x := by
  cases h
  rfl
end
/-! ### sentences that are right -/
structure WOK (w : Str) : Prop where
  a : inW words (.str w) = true
  b : isStr (.str w) "verb" = false
  c : isStr (.str w) "self" = false
  d : SeqAt.shaped (.str w) = true
structure QOK (w : Str) : Prop where
  a : inW quants (.str w) = true
  d : SeqAt.shaped (.str w) = true
theorem words_ok : ∀ d ∈ words, ∃ w, d = .str w ∧ WOK w := by
  intro d h
  unfold words at h
  simp only [List.mem_cons, List.not_mem_nil, or_false] at h
  rcases h with rfl | rfl | rfl | rfl | rfl | rfl
  all_goals exact ⟨_, rfl, by decide +kernel, by decide +kernel, by decide +kernel, by decide +kernel⟩
theorem quants_ok : ∀ d ∈ quants, ∃ w, d = .str w ∧ QOK w := by
  intro d h
  unfold quants at h
  simp only [List.mem_cons, List.not_mem_nil, or_false] at h
  rcases h with rfl | rfl
  all_goals exact ⟨_, rfl, by decide +kernel, by decide +kernel⟩
inductive Sen (n m : Int) : List PyData → Prop
  | noun (w : Str) (x y : Int) (hw : WOK w) (x0 : 0 ≤ x) (x1 : x < n) (y0 : 0 ≤ y) (y1 : y < n) : Sen n m [.str w, .int x, .int y]
  | self (q : Str) (x : Int) (b : Bool) (v : Int) (hq : QOK q) (x0 : 0 ≤ x) (x1 : x < n) (v0 : 0 ≤ v) (v1 : v < m) : Sen n m [.str "self", .str q, .int x, .bool b, .int v]
  | verb (q : Str) (x : Int) (b : Bool) (v : Int) (c : Bool) (p : Str) (y : Int) (hq : QOK q) (hp : QOK p) (x0 : 0 ≤ x) (x1 : x < n) (v0 : 0 ≤ v) (v1 : v < m) (y0 : 0 ≤ y) (y1 : y < n) : Sen n m [.str "verb", .str q, .int x, .bool b, .int v, .bool c, .str p, .int y]
theorem isInt_in {x n : Int} (h0 : 0 ≤ x) (h1 : x < n) : isInt (.int x) 0 (n - 1) = true := by
  show (decide (0 ≤ x) && decide (x ≤ n - 1)) = true
  rw [decide_eq_true h0, decide_eq_true (show x ≤ n - 1 by omega)]
  rfl
theorem vv : isStr (.str "verb") "verb" = true := by decide +kernel
theorem sv : isStr (.str "self") "verb" = false := by decide +kernel
theorem ss : isStr (.str "self") "self" = true := by decide +kernel
theorem Sen.ok {n m : Int} {ds : List PyData} (h : Sen n m ds) : isSent n m (.tuple ds) = true := by
  cases h with
  | noun w x y hw x0 x1 y0 y1 => simp [isSent, isNS, hw.a, hw.b, hw.c, isInt_in x0 x1, isInt_in y0 y1]
  | self q x b v hq x0 x1 v0 v1 => simp [isSent, isSS, isB, sv, ss, hq.a, isInt_in x0 x1, isInt_in v0 v1]
  | verb q x b v c p y hq hp x0 x1 v0 v1 y0 y1 => simp [isSent, isVS, isB, vv, hq.a, hp.a, isInt_in x0 x1, isInt_in v0 v1, isInt_in y0 y1]
theorem Sen.shs {n m : Int} {ds : List PyData} (h : Sen n m ds) : shs (.tuple ds) = true := by
  cases h with
  | noun w x y hw => simp [V.shs, hw.d, shI]
  | self q x b v hq => simp [V.shs, hq.d, shI, shB, shS "self"]
  | verb q x b v c p y hq hp => simp [V.shs, hq.d, hp.d, shI, shB, shS "verb"]
theorem Sen.safe {n m : Int} {ds : List PyData} (h : Sen n m ds) : safe (.tuple ds) = true := by
  cases h <;> simp [V.safe]
theorem Sen.safeL {n m : Int} {ds : List PyData} (h : Sen n m ds) : V.safe (.list ds) = true := by
  cases h <;> simp [V.safe, okL]
theorem Sen.noL {n m : Int} {ds : List PyData} (h : Sen n m ds) : noL (.tuple ds) = true := by
  cases h <;> simp [V.noL, noLs]
theorem Sen.shaped {n m : Int} {ds : List PyData} (h : Sen n m ds) : SeqAt.shaped (.tuple ds) = true := by
  have hv : PyData.strOk "verb" = true := by decide +kernel
  have hs : PyData.strOk "self" = true := by decide +kernel
  cases h with
  | noun w x y hw =>
    have := hw.d
    simp [SeqAt.shaped, PyData.canLay0, PyData.canLayAll0, PyData.depth, PyData.depthAll] at this ⊢
    simp [this]
  | self q x b v hq =>
    have := hq.d
    simp [SeqAt.shaped, PyData.canLay0, PyData.canLayAll0, PyData.depth, PyData.depthAll, hs] at this ⊢
    simp [this]
  | verb q x b v c p y hq hp =>
    have h1 := hq.d
    have h2 := hp.d
    simp [SeqAt.shaped, PyData.canLay0, PyData.canLayAll0, PyData.depth, PyData.depthAll, hv] at h1 h2 ⊢
    simp [h1, h2]
section
variable {K : PySem.W.Frag} {σ : St} {H : Hp} {te tb tq : TE} {ta : TA} {d : PyData} {ds es : List PyData} {v : V} {i : Nat}
theorem dp_tup {H : Hp} {v : V} {ds : List PyData} (h : Dp K H v (.tuple ds)) : ∃ a xs, v = .ref a ∧ SqT K H a xs ∧ DpAll K H xs ds := by
  cases h with
  | tup h a => exact ⟨_, _, rfl, h, a⟩
theorem dp_lst {H : Hp} {v : V} {ds : List PyData} (h : Dp K H v (.list ds)) : ∃ a xs, v = .ref a ∧ SqL K H a xs ∧ DpAll K H xs ds := by
  cases h with
  | lst h a => exact ⟨_, _, rfl, h, a⟩
theorem dp_sig {H : Hp} {v : V} {n m : Int} (h : Dp K H v (.tuple [.int n, .int m])) : Sig K H v n m := by
  obtain ⟨a, xs, rfl, hs, ha⟩ := dp_tup h
  cases ha with
  | cons h1 t =>
  cases h1
  cases t with
  | cons h2 t =>
  cases h2
  cases t
  exact ⟨a, rfl, hs⟩
theorem de_listof (e : σ[i]? = some (some v)) (h : Dp K H v (.tuple ds)) : DE K σ H (tCB (fun xs H Q => ∃ p ys, xs = [.ref p] ∧ (SqL K H p ys ∨ SqT K H p ys) ∧ ∀ l, H l = none → Q (.ref l) (upd H l (.lst ys))) (tCons (tVar i) tNil)) (.list ds) := fun H1 s Q k => by
  obtain ⟨a, xs, rfl, hs, ha⟩ := dp_tup (keepD s _ _ h)
  exact ⟨_, e, a, xs, rfl, .inr hs, fun l nl => k _ _ (same_upd nl) (.lst (.of upd_same) (keepDs (same_upd nl) _ _ ha))⟩
theorem de_catA (h1 : DE K σ H te (.tuple ds)) (h2 : DE K σ H tb (.tuple es)) (hl : ds.length + es.length ≤ 1000) : DE K σ H (tOp (rCatA K) te tb) (.tuple (ds ++ es)) := fun H1 s Q k =>
  h1 H1 s _ fun x H2 s2 hx => h2 H2 (s.trans s2) _ fun y H3 s3 hy => by
    obtain ⟨a, xs, rfl, ha, hxs⟩ := dp_tup (keepD s3 _ _ hx)
    obtain ⟨b, ys, rfl, hb, hys⟩ := dp_tup hy
    have l1 := DpAll.length hxs
    have l2 := DpAll.length hys
    exact catA_ok ha hb (small (by omega)) fun t H4 s4 ht => k _ _ ((s2.trans s3).trans s4) (.tup ht (keepDs s4 _ _ (DpAll.append hxs hys)))
theorem de_to {z : Int} {k : Nat} (hz : z = (k : Int)) (h1 : DE K σ H te (.tuple ds)) (hk : k ≤ ds.length) (h2 : DE K σ H tq (.int z)) : DE K σ H (tSl (rSlA K) te tNoPart (tPart tq)) (.tuple (ds.take k)) := fun H1 s Q q =>
  h1 H1 s _ fun x H2 s2 hx => by
    dsimp only [tNoPart]
    refine h2 H2 (s.trans s2) _ fun y H3 s3 hy => ?_
    have ey := dp_int hy
    subst ey
    obtain ⟨a, xs, rfl, ha, hxs⟩ := dp_tup (keepD s3 _ _ hx)
    refine ⟨z, rfl, slA_ok ha fun t H4 s4 ht => q _ _ ((s2.trans s3).trans s4) (.tup ht ?_)⟩
    rw [hz, cut_to (by rw [DpAll.length hxs]; exact hk)]
    exact keepDs s4 _ _ (DpAll.take k hxs)
theorem de_from {z : Int} {k : Nat} (hz : z = (k : Int)) (h1 : DE K σ H te (.tuple ds)) (hk : k ≤ ds.length) (h2 : DE K σ H tq (.int z)) : DE K σ H (tSl (rSlA K) te (tPart tq) tNoPart) (.tuple (ds.drop k)) := fun H1 s Q q =>
  h1 H1 s _ fun x H2 s2 hx => h2 H2 (s.trans s2) _ fun y H3 s3 hy => by
    have ey := dp_int hy
    subst ey
    obtain ⟨a, xs, rfl, ha, hxs⟩ := dp_tup (keepD s3 _ _ hx)
    refine ⟨z, rfl, ?_⟩
    dsimp only [tNoPart]
    refine slA_ok ha fun t H4 s4 ht => q _ _ ((s2.trans s3).trans s4) (.tup ht ?_)
    rw [hz, cut_from (by rw [DpAll.length hxs]; exact hk)]
    exact keepDs s4 _ _ (DpAll.drop k hxs)
theorem de_last (h1 : DE K σ H te (.tuple ds)) (hk : 1 ≤ ds.length) (h2 : DE K σ H tq (.int (-1))) : DE K σ H (tSl (rSlA K) te tNoPart (tPart tq)) (.tuple (ds.take (ds.length - 1))) := fun H1 s Q q =>
  h1 H1 s _ fun x H2 s2 hx => by
    dsimp only [tNoPart]
    refine h2 H2 (s.trans s2) _ fun y H3 s3 hy => ?_
    have ey := dp_int hy
    subst ey
    obtain ⟨a, xs, rfl, ha, hxs⟩ := dp_tup (keepD s3 _ _ hx)
    refine ⟨-1, rfl, slA_ok ha fun t H4 s4 ht => q _ _ ((s2.trans s3).trans s4) (.tup ht ?_)⟩
    have hl := DpAll.length hxs
    rw [cut_last (by omega), hl]
    exact keepDs s4 _ _ (DpAll.take _ hxs)
theorem de_ixT {j : Nat} {z : Int} (hz : z = (j : Int)) (h1 : DE K σ H te (.tuple ds)) (hj : ds[j]? = some d) : DE K σ H (tOp (rIxT K) te (tC (.int z))) d := fun H1 s Q q =>
  h1 H1 s _ fun x H2 s2 hx => by
    obtain ⟨a, xs, rfl, ha, hxs⟩ := dp_tup hx
    obtain ⟨y, ey, dy⟩ := DpAll.get hxs hj
    subst hz
    exact ⟨a, xs, _, y, rfl, rfl, ha, atI_nat ey, q _ _ s2 dy⟩
theorem de_add {a b : Int} (h1 : DE K σ H te (.int a)) (h2 : DE K σ H tb (.int b)) : DE K σ H (tOp (rI0 fun i j => .int (i + j)) te tb) (.int (a + b)) := fun H1 s Q q =>
  h1 H1 s _ fun x H2 s2 hx => h2 H2 (s.trans s2) _ fun y H3 s3 hy => by
    have ex := dp_int hx
    have ey := dp_int hy
    subst ex ey
    exact ⟨a, b, rfl, rfl, q _ _ (s2.trans s3) (.int _)⟩
theorem DpAll.flat {H : Hp} {xs : List V} {ds : List PyData} (h : DpAll K H xs ds) : ∀ k : Nat, DpAll K H (List.replicate k xs).flatten (List.replicate k ds).flatten
  | 0 => .nil
  | k + 1 => by
    rw [List.replicate_succ, List.replicate_succ, List.flatten_cons, List.flatten_cons]
    exact DpAll.append h (DpAll.flat h k)
theorem de_repT {k : Nat} {z : Int} (hz : z = (k : Int)) (h1 : DE K σ H te (.tuple ds)) (hn : ds ≠ []) (h2 : 2 ≤ k) (h3 : k ≤ 1000) (hl : ds.length ≤ 1000) : DE K σ H (tOp (rRepT K) te (tC (.int z))) (.tuple (List.replicate k ds).flatten) := fun H1 s Q q =>
  h1 H1 s _ fun x H2 s2 hx => by
    obtain ⟨a, xs, rfl, ha, hxs⟩ := dp_tup hx
    have hlen := DpAll.length hxs
    refine ⟨a, z, xs, rfl, rfl, ha, ?_, by omega, by omega, by omega, fun p np => q _ _ (s2.trans (same_upd np)) (.tup (.of upd_same) ?_)⟩
    · intro e
      rw [e] at hlen
      exact hn (List.length_eq_zero_iff.mp hlen.symm)
    · rw [hz, Int.toNat_natCast]
      exact keepDs (same_upd np) _ _ (DpAll.flat hxs k)
theorem de_rep {k : Nat} {z : Int} (hz : z = (k : Int)) (h1 : DA K σ H ta ds) (h3 : k ≤ 30) (hl : ds.length ≤ 30) : DE K σ H (tOp rRep (tLst ta) (tC (.int z))) (.list (List.replicate k ds).flatten) := fun H1 s Q q =>
  h1 H1 s _ fun xs H2 s2 hxs => by
    have hlen := DpAll.length hxs
    refine ⟨small (by omega), fun p np => ?_⟩
    refine ⟨p, z, xs, rfl, rfl, upd_same, by omega, by omega, ?_, fun r nr => q _ _ ((s2.trans (same_upd np)).trans (same_upd nr)) (.lst (.of upd_same) ?_)⟩
    · rw [hz, Int.toNat_natCast]
      refine small ?_
      have : xs.length * k ≤ 30 * 30 := Nat.mul_le_mul (by omega) h3
      omega
    · rw [hz, Int.toNat_natCast]
      exact keepDs (same_upd nr) _ _ (keepDs (same_upd np) _ _ (DpAll.flat hxs k))
end
section
variable {r : R2} {ta tb te : TE} {tr t : TA} {σ : St} {H : Hp} {Q : VK}
theorem op_at (h : ta σ H fun x H1 => tb σ H1 fun y H2 => r x y H2 Q) : tOp r ta tb σ H Q := h
theorem lst_at (h : t σ H fun xs H1 => xs.length ≤ sizeLine ∧ ∀ p, H1 p = none → Q (.ref p) (upd H1 p (.lst xs))) : tLst t σ H Q := h
theorem tup_at (h : t σ H fun xs H1 => xs.length ≤ sizeLine ∧ ∀ p, H1 p = none → Q (.ref p) (upd H1 p (.tup xs))) : tTup t σ H Q := h
theorem call_at {sp : Sp} {dvs : List V} {E : XK} (h : t σ H fun vs H1 => sp (vs ++ dvs) H1 Q E) : tCall sp dvs E t σ H Q := h
theorem cons_at {R : List V → Hp → Prop} (h : te σ H fun x H1 => tr σ H1 fun xs H2 => R (x :: xs) H2) : tCons te tr σ H R := h
theorem de_ixL {K : PySem.W.Frag} {z : Int} {j : Nat} {d : PyData} {ds : List PyData} (hz : z = (j : Int)) (h1 : DE K σ H te (.list ds)) (h2 : DE K σ H tb (.int z)) (hj : ds[j]? = some d) : DE K σ H (tOp (rIxL K) te tb) d := fun H1 s Q q =>
  h1 H1 s _ fun x H2 s2 hx => h2 H2 (s.trans s2) _ fun y H3 s3 hy => by
    obtain ⟨a, xs, rfl, ha, hxs⟩ := dp_lst (keepD s3 _ _ hx)
    obtain ⟨y, ey, dy⟩ := DpAll.get hxs hj
    have ez := dp_int hy
    subst ez hz
    exact ⟨a, xs, _, y, rfl, rfl, ha, atI_nat ey, q _ _ (s2.trans s3) dy⟩
end
section
variable {P : Program} {w : World} {K : PySem.W.Frag} {mg : Str → Option Value} {base : Heap}
def spCheckS (K : PySem.W.Frag) : Sp := fun vs H Q _ => ∃ (v : V) (d : PyData), vs = [v] ∧ Dp K H v d ∧ isSig d = true ∧ Q .non H
theorem ok_check_signature (T : Txt K mg) : FnOk P w K mg base CX0 3 T.f_check_signature T.d_check_signature ["signature"] (spCheckS K) := by
  have G_is_signature := ok_is_signature (P := P) (w := w) (base := base) T
  refine T.F_check_signature.ok sccheck_signature (fun vs H Q E h => ?_) (fun cdv A outer s H vs Q E hr h => ?_)
  · obtain ⟨v, d, rfl, _⟩ := h
    rfl
  · obtain ⟨v, d, rfl, hd, hg, k⟩ := h
    refine ⟨_, (pss_one (ps_if (pt_not (pt_val (pe_call G_is_signature (hr.mono (by decide)) (by rfl) T.g_is_signature T.F_is_signature.kp T.b_is_signature .nil pass0 (pa_cons (pv 0) pa_nil)))) (pss_one ps_never) pss_nil)), ?_⟩
    refine ⟨_, rfl, v, d, rfl, hd, ?_⟩
    rw [hg]
    exact ⟨_, rfl, iteF k⟩
def spCheckP (K : PySem.W.Frag) (P : Addr) : Sp := fun vs H Q _ => ∃ (v x u : V) (d : PyData) (n m : Int), vs = [v, x, u] ∧ Sig K H v n m ∧ Dp K H x d ∧ shss d = true ∧ isPrem n m d = true ∧ GxR.TabG H P ∧ ∀ H', Same H H' → Q .non H'
theorem ok_check_premises (T : Txt K mg) (TB_are_premises : GxR.TabB base mg T.cc_are_premises T.pp_are_premises) : FnOk P w K mg base CX0 7 T.f_check_premises T.d_check_premises ["signature", "premises", "name"] (spCheckP K T.pp_are_premises) := by
  have G_are_premises := ok_are_premises (P := P) (w := w) (base := base) T TB_are_premises
  refine T.F_check_premises.ok sccheck_premises (fun vs H Q E h => ?_) (fun cdv A outer s H vs Q E hr h => ?_)
  · obtain ⟨v, x, u, d, n, m, rfl, _⟩ := h
    rfl
  · obtain ⟨v, x, u, d, n, m, rfl, hs, hd, sh, hp, tg, k⟩ := h
    refine ⟨_, (pss_one (ps_if (pt_not (pt_val (pe_call G_are_premises (hr.mono (by decide)) (by rfl) T.g_are_premises T.F_are_premises.kp T.b_are_premises .nil pass0 (pa_cons (pv 0) (pa_cons (pv 1) pa_nil))))) (pss_one ps_never) pss_nil)), ?_⟩
    refine ⟨_, rfl, _, rfl, v, x, d, n, m, rfl, hs, hd, sh, tg, fun H2 s2 => ?_⟩
    rw [hp]
    exact ⟨_, rfl, iteF (k _ s2)⟩
end
/-! ### tables -/
def row (n : Nat) (f : Nat → Bool) : List V := (List.range n).map fun y => V.bl (f y)
def mat (n : Nat) (f : Nat → Nat → Bool) : PyData := .list ((List.range n).map fun x => .list ((List.range n).map fun y => .bool (f x y)))
/-- not an object of the heap H1 that is followed -/
structure New (H1 : Hp) (r : Addr) : Prop where
  a : ∀ o, H1 r = some o → ∃ ps, o = .tbl ps
  b : ¬ GxR.TabG H1 r
theorem New.of {H1 H : Hp} {r : Addr} (s : Same H1 H) (h : H r = none) : New H1 r := by
  refine ⟨fun o e => ?_, fun t => ?_⟩
  · cases o with
    | tbl ps => exact ⟨ps, rfl⟩
    | _ =>
      have := s.at e
      rw [h] at this
      cases this
  · obtain ⟨ps, e, _⟩ := s.2 r t
    rw [h] at e
    cases e
theorem New.back {H1 H : Hp} {r : Addr} (s : Same H1 H) (h : New H r) : New H1 r := by
  refine ⟨fun o e => ?_, fun t => h.b (s.2 r t)⟩
  cases o with
  | tbl ps => exact ⟨ps, rfl⟩
  | _ =>
    obtain ⟨ps, z⟩ := h.a _ (s.at e)
    cases z
theorem New.ne {H1 : Hp} {r b : Addr} {o : HO} (h : New H1 r) (e : H1 b = some o) (n : ∀ ps, o ≠ .tbl ps := by intro ps z; cases z) : r ≠ b := by
  rintro rfl
  obtain ⟨ps, z⟩ := h.a _ e
  exact n ps z
theorem same_new {H H1 : Hp} {p : Addr} {o : HO} (s : Same H H1) (h : New H p) : Same H (upd H1 p o) := by
  refine ⟨fun b x e n => ?_, fun b hb => ?_⟩
  · rw [upd_ne (show b ≠ p from fun z => h.ne e n z.symm)]
    exact s.1 b x e n
  · have nb : b ≠ p := fun z => h.b (by rw [← z]; exact hb)
    obtain ⟨ps2, h2, t2⟩ := s.2 b hb
    exact ⟨ps2, by rw [upd_ne nb]; exact h2, t2⟩
/-- a table of truth values: the list of its rows, all of them lists of their own -/
structure MatH (H : Hp) (A : Addr) (rs : List Addr) (n : Nat) (f : Nat → Nat → Bool) : Prop where
  top : H A = some (.lst (rs.map V.ref))
  len : rs.length = n
  rows : ∀ x r, rs[x]? = some r → H r = some (.lst (row n (f x)))
  nd : rs.Nodup
  neq : A ∉ rs
theorem MatH.keep {H H' : Hp} {A : Addr} {rs : List Addr} {n : Nat} {f : Nat → Nat → Bool} (s : Same H H') (m : MatH H A rs n f) : MatH H' A rs n f :=
  ⟨s.at m.top, m.len, fun x r e => s.at (m.rows x r e), m.nd, m.neq⟩
theorem row_dp {K : PySem.W.Frag} {H : Hp} {f : Nat → Bool} : ∀ {ys : List Nat}, DpAll K H (ys.map fun y => V.bl (f y)) (ys.map fun y => .bool (f y))
  | [] => .nil
  | y :: ys => .cons (.bl _) row_dp
theorem rows_dp {K : PySem.W.Frag} {H : Hp} {n : Nat} {f : Nat → Nat → Bool} : ∀ {rs : List Addr} {k : Nat}, (∀ x r, rs[x]? = some r → H r = some (.lst (row n (f (k + x))))) → DpAll K H (rs.map V.ref) ((List.range rs.length).map fun x => .list ((List.range n).map fun y => .bool (f (k + x) y)))
  | [], _, _ => .nil
  | r :: rs, k, h => by
    rw [List.map_cons, List.length_cons, List.range_succ_eq_map, List.map_cons, List.map_map]
    refine .cons (.lst (.of (h 0 r rfl)) row_dp) ?_
    have := rows_dp (rs := rs) (k := k + 1) (n := n) (f := f) (K := K) (H := H) fun x r e => by
      have := h (x + 1) r (by simpa using e)
      rw [show k + 1 + x = k + (x + 1) by omega]
      exact this
    have e : ((fun x => PyData.list ((List.range n).map fun y => .bool (f (k + x) y))) ∘ Nat.succ) = fun x => PyData.list ((List.range n).map fun y => .bool (f (k + 1 + x) y)) := by
      funext x
      show PyData.list ((List.range n).map fun y => .bool (f (k + (x + 1)) y)) = _
      rw [show k + 1 + x = k + (x + 1) by omega]
    rw [e]
    exact this
theorem MatH.dp {K : PySem.W.Frag} {H : Hp} {A : Addr} {rs : List Addr} {n : Nat} {f : Nat → Nat → Bool} (m : MatH H A rs n f) : Dp K H (.ref A) (mat n f) := by
  refine .lst (.of m.top) ?_
  have := rows_dp (K := K) (H := H) (rs := rs) (k := 0) (n := n) (f := f) fun x r e => by
    rw [Nat.zero_add]
    exact m.rows x r e
  rw [m.len] at this
  simpa only [Nat.zero_add] using this
section
variable {σ : St} {H1 : Hp} {te : TE} {n : Nat} {wi wi' : TI} {Q : VK}
theorem row_lc {j : Nat} {f : Nat → Bool} (hn : n ≤ 1000) (hw : ∀ R : It → Hp → Prop, R (Itr 0 n) H1 → wi σ H1 R)
    (hwp : ∀ v, wipe ((wipe σ [j]).set j v) [j] = wipe σ [j])
    (he : ∀ y H, y < n → Same H1 H → ∀ R : VK, (∀ H', Same H H' → R (.bl (f y)) H') → te ((wipe σ [j]).set j (some (.int y))) H R)
    (k : ∀ D H2, H1 D = none → Same H1 H2 → H2 D = some (.lst (row n f)) → Q (.ref D) H2) : tLc wi (gName j) tYes te [j] σ H1 Q := by
  refine hw _ fun D nD => lc_range (lo := 0) (n := n) (fun i H => Same H1 H ∧ H D = some (.lst (row i f))) ⟨same_upd nD, upd_same⟩ (fun i H hi hP => ?_) fun H hP => k D H nD hP.1 hP.2
  obtain ⟨s, hD⟩ := hP
  rw [Int.zero_add]
  refine ⟨hwp _, he i H hi s _ fun H' s' => ⟨_, s'.at hD, ?_, same_fresh (s.trans s') nD, ?_⟩⟩
  · unfold row
    rw [List.length_map, List.length_range]
    exact small1000 (by omega)
  · rw [upd_same]
    unfold row
    rw [List.range_succ, List.map_append]
    rfl
theorem mat_lcR {i : Nat} {f : Nat → Nat → Bool} (hn : n ≤ 1000) (hw : ∀ R : It → Hp → Prop, R (Itr 0 n) H1 → wi σ H1 R)
    (hwp : ∀ v, wipe ((wipe σ [i]).set i v) [i] = wipe σ [i])
    (he : ∀ x H, x < n → Same H1 H → ∀ R : VK, (∀ r H2, H r = none → Same H H2 → H2 r = some (.lst (row n (f x))) → R (.ref r) H2) → te ((wipe σ [i]).set i (some (.int (x : Nat)))) H R)
    (k : ∀ A rs H2, Same H1 H2 → MatH H2 A rs n f → New H1 A → (∀ r ∈ rs, New H1 r) → Q (.ref A) H2) : tLc wi (gName i) tYes te [i] σ H1 Q := by
  refine hw _ fun D nD => lc_range (lo := 0) (n := n) (fun i H => Same H1 H ∧ ∃ rs : List Addr, H D = some (.lst (rs.map V.ref)) ∧ rs.length = i ∧ (∀ x r, rs[x]? = some r → H r = some (.lst (row n (f x)))) ∧ rs.Nodup ∧ (∀ r ∈ rs, New H1 r) ∧ D ∉ rs) ⟨same_upd nD, [], upd_same, rfl, by simp, List.nodup_nil, by simp, by simp⟩ (fun x H hx hP => ?_) fun H hP => ?_
  · obtain ⟨s, rs, hD, lr, hr, nd, nw, nt⟩ := hP
    rw [Int.zero_add]
    refine ⟨hwp _, ?_⟩
    dsimp only [tYes]
    rw [if_pos rfl]
    refine he x H hx s _ fun r H2 nr s2 h2 => ?_
    have hD2 := s2.at hD
    have rD : r ≠ D := ne_of_none hD nr |>.symm
    refine ⟨_, hD2, ?_, same_fresh (s.trans s2) nD, rs ++ [r], ?_, by rw [List.length_append, lr]; rfl, fun z q e => ?_, ?_, ?_, ?_⟩
    · rw [List.length_map, lr]
      exact small1000 (by omega)
    · rw [upd_same, List.map_append]
      rfl
    · rw [List.getElem?_append] at e
      split at e
      · have hq := List.mem_of_getElem? e
        rw [upd_ne (show q ≠ D from fun z => nt (by rw [← z]; exact hq))]
        exact s2.at (hr z q e)
      · rename_i hz
        have hz2 : z - rs.length = 0 := by
          rcases Nat.eq_zero_or_pos (z - rs.length) with h | h
          · exact h
          · rw [List.getElem?_eq_none (by simp; omega)] at e
            cases e
        rw [hz2] at e
        cases e
        have : z = x := by omega
        rw [this, upd_ne rD]
        exact h2
    · rw [List.nodup_append]
      refine ⟨nd, by simp, fun a ha b hb => ?_⟩
      rw [List.mem_singleton] at hb
      subst hb
      obtain ⟨z, hz⟩ := List.getElem?_of_mem ha
      exact fun e => by
        have := hr z a hz
        rw [e, nr] at this
        cases this
    · intro q hq
      rw [List.mem_append, List.mem_singleton] at hq
      rcases hq with hq | rfl
      · exact nw q hq
      · exact New.of s nr
    · intro hq
      rw [List.mem_append, List.mem_singleton] at hq
      rcases hq with hq | hq
      · exact nt hq
      · exact rD hq.symm
  · obtain ⟨s, rs, hD, lr, hr, nd, nw, nt⟩ := hP
    exact k D rs H s ⟨hD, lr, hr, nd, nt⟩ (New.of (Same.refl _) nD) nw
theorem mat_lc {i j : Nat} {f : Nat → Nat → Bool} (hn : n ≤ 1000) (hw : ∀ R : It → Hp → Prop, R (Itr 0 n) H1 → wi σ H1 R)
    (hwp : ∀ v, wipe ((wipe σ [i]).set i v) [i] = wipe σ [i])
    (hw' : ∀ x H, x < n → Same H1 H → ∀ R : It → Hp → Prop, R (Itr 0 n) H → wi' ((wipe σ [i]).set i (some (.int (x : Nat)))) H R)
    (hwp' : ∀ u v, wipe ((wipe ((wipe σ [i]).set i u) [j]).set j v) [j] = wipe ((wipe σ [i]).set i u) [j])
    (he : ∀ x y H, x < n → y < n → Same H1 H → ∀ R : VK, (∀ H', Same H H' → R (.bl (f x y)) H') → te ((wipe ((wipe σ [i]).set i (some (.int (x : Nat)))) [j]).set j (some (.int (y : Nat)))) H R)
    (k : ∀ A rs H2, Same H1 H2 → MatH H2 A rs n f → New H1 A → (∀ r ∈ rs, New H1 r) → Q (.ref A) H2) : tLc wi (gName i) tYes (tLc wi' (gName j) tYes te [j]) [i] σ H1 Q :=
  mat_lcR hn hw hwp (fun x H hx s R h => row_lc (f := f x) hn (hw' x H hx s) (hwp' _) (fun y H2 hy s2 => he x y H2 hx hy (s.trans s2)) fun r H2 nr s2 h2 => h r H2 nr s2 h2) k
end
section
variable {P : Program} {w : World} {K : PySem.W.Frag} {mg : Str → Option Value} {base : Heap}
def pr (x y : Nat) : PyData := .tuple [.int x, .int y]
theorem sh_pr (x y : Nat) : SeqAt.shaped (pr x y) = true := by simp [pr, SeqAt.shaped, PyData.canLay0, PyData.canLayAll0, PyData.depth, PyData.depthAll]
def spTable (K : PySem.W.Frag) : Sp := fun vs H Q _ => ∃ (v : V) (n : Nat) (ds : List PyData), vs = [.int n, v] ∧ n ≤ 1000 ∧ Dp K H v (.list ds) ∧ SeqAt.shaped (.list ds) = true ∧ ∀ u H', Same H H' → Dp K H' u (mat n fun x y => inW ds (pr x y)) → Q u H'
theorem ok__table (T : Txt K mg) : FnOk P w K mg base CX0 1 T.f__table T.d__table ["many", "pairs"] (spTable K) := by
  refine T.F__table.ok sc_table (fun vs H Q E h => ?_) (fun cdv A outer s H vs Q E hr h => ?_)
  · obtain ⟨v, n, ds, rfl, _⟩ := h
    rfl
  · obtain ⟨v, n, ds, rfl, hn, hv, sh, k⟩ := h
    refine ⟨_, (pss_one (ps_ret (pe_lc (own := [("x", 2)]) (g := gName 2) (tt := tYes) rfl sc_table.nd (pi_range1 (by rfl) T.n_range (pa_cons (pv 0) pa_nil)) (blkOk_by (own := [("x", 2)]) (N := N_table) (sc := defScope s_table) (by decide +kernel)) (fun _ _ _ _ _ => pg_name (i := 2) sc_table.nd rfl (Or.inr rfl)) (fun _ _ _ _ _ => pts_nil) (fun _ _ _ _ _ => (pe_lc (own := [("y", 3)]) (g := gName 3) (tt := tYes) rfl sc_table.nd (pi_range1 (by rfl) T.n_range (pa_cons (pv 0) pa_nil)) (blkOk_by (own := [("y", 3)]) (by kernel_rfl!)) (fun _ _ _ _ _ => pg_name (i := 3) sc_table.nd rfl (Or.inl rfl)) (fun _ _ _ _ _ => pts_nil) (fun _ _ _ _ _ => (pe_cmpR (op_inL K rfl hr.units2) (pe_tup (pa_cons (pv 2) (pa_cons (pv 3) pa_nil))) (pv 1) (by rfl)))))))), ?_⟩
    refine mat_lc (n := n) (f := fun x y => inW ds (pr x y)) hn (fun R h => ⟨_, rfl, n, rfl, by omega, by omega, h⟩) (fun _ => rfl) (fun x H2 hx s R h => ⟨_, rfl, n, rfl, by omega, by omega, h⟩) (fun _ _ => rfl) (fun x y H2 hx hy s R h => ?_) fun A rs H2 s m _ _ => k _ _ s m.dp
    refine ⟨_, rfl, _, rfl, by show 2 ≤ sizeLine; decide, fun p np => ⟨_, rfl, pr x y, ds, ?_, keepD (s.trans (same_upd np)) _ _ hv, sh_pr x y, sh, h _ (same_upd np)⟩⟩
    exact .tup (.of upd_same) (.cons (.int _) (.cons (.int _) .nil))
def leads (n : Nat) (f : Nat → Nat → Bool) (x y : Nat) : Bool := (List.range n).any fun z => f x z && f z y
/-- the items of a table -/
theorem mat_at {H : Hp} {v : V} {n : Nat} {f : Nat → Nat → Bool} (h : Dp K H v (mat n f)) : ∃ A rs, v = .ref A ∧ rs.length = n ∧ SqL K H A rs ∧ ∀ x, x < n → ∃ r bs, rs[x]? = some (.ref r) ∧ SqL K H r bs ∧ ∀ y, y < n → bs[y]? = some (.bl (f x y)) := by
  obtain ⟨A, rs, rfl, hA, hr⟩ := dp_lst h
  refine ⟨A, rs, rfl, ?_, hA, fun x hx => ?_⟩
  · rw [DpAll.length hr, List.length_map, List.length_range]
  · have e : ((List.range n).map fun x => PyData.list ((List.range n).map fun y => .bool (f x y)))[x]? = some (.list ((List.range n).map fun y => .bool (f x y))) := by
      rw [List.getElem?_map, List.getElem?_range hx]
      rfl
    obtain ⟨r, er, dr⟩ := DpAll.get hr e
    obtain ⟨R, bs, rfl, hR, hb⟩ := dp_lst dr
    refine ⟨R, bs, er, hR, fun y hy => ?_⟩
    have e2 : ((List.range n).map fun y => PyData.bool (f x y))[y]? = some (.bool (f x y)) := by
      rw [List.getElem?_map, List.getElem?_range hy]
      rfl
    obtain ⟨b, eb, db⟩ := DpAll.get hb e2
    cases db
    exact eb
/-- t[x][y] -/
theorem mat_ix {σ : St} {H : Hp} {v : V} {n : Nat} {f : Nat → Nat → Bool} {Q : VK} {a i j : Nat} {x y : Nat} (h : Dp K H v (mat n f)) (hx : x < n) (hy : y < n) (ea : σ[a]? = some (some v)) (ei : σ[i]? = some (some (.int (x : Nat)))) (ej : σ[j]? = some (some (.int (y : Nat)))) (k : Q (.bl (f x y)) H) :
    tOp (rIxL K) (tOp (rIxL K) (tVar a) (tVar i)) (tVar j) σ H Q := by
  obtain ⟨A, rs, rfl, lr, hA, hr⟩ := mat_at h
  obtain ⟨r, bs, er, hR, hb⟩ := hr x hx
  exact ⟨_, ea, _, ei, A, rs, _, _, rfl, rfl, hA, atI_nat er, _, ej, r, bs, _, _, rfl, rfl, hR, atI_nat (hb y hy), k⟩
def spLeads (K : PySem.W.Frag) (P : Addr) : Sp := fun vs H Q _ => ∃ (v : V) (n x y : Nat) (f : Nat → Nat → Bool), vs = [v, .int x, .int y] ∧ n ≤ 1000 ∧ Dp K H v (mat n f) ∧ x < n ∧ y < n ∧ GxR.TabG H P ∧ ∀ H', Same H H' → Q (.bl (leads n f x y)) H'
theorem ok__leads (T : Txt K mg) (TB__leads : GxR.TabB base mg T.cc__leads T.pp__leads) : FnOk P w K mg base CX0 2 T.f__leads T.d__leads ["table", "x", "y"] (spLeads K T.pp__leads) := by
  refine T.FC__leads.ok sc_leads (fun vs H Q E h => ?_) (fun A outer s H vs Q E hr h => ?_)
  · obtain ⟨v, n, x, y, f, rfl, _⟩ := h
    rfl
  · obtain ⟨v, n, x, y, f, rfl, hn, hv, hx, hy, tg, k⟩ := h
    refine ⟨_, (pss_one (ps_ret (GXX.pe_genAny (own := [("z", 3)]) (g := gName 3) rfl hr (by rfl) T.n_any TB__leads rfl sc_leads.nd (pi_range1 (by rfl) T.n_range (pa_cons (pe_callB call_len_seq (by rfl) T.n_len (by decide +kernel) (pa_cons (pv 0) pa_nil)) pa_nil)) (blkOk_by (own := [("z", 3)]) (N := N_leads) (sc := defScope s_leads) (by decide +kernel)) (by decide +kernel) rfl rfl (fun _ _ _ _ _ _ _ => pg_name (i := 3) sc_leads.nd rfl (Or.inl rfl)) (fun _ _ _ _ _ _ _ => (pe_and (pe_ix (kq_ixL K rfl) (pe_ix (kq_ixL K rfl) (pv 0) (pv 1) (fun _ _ => rfl)) (pv 3) (fun _ _ => rfl)) (pe_one (pe_ix (kq_ixL K rfl) (pe_ix (kq_ixL K rfl) (pv 0) (pv 3) (fun _ _ => rfl)) (pv 2) (fun _ _ => rfl)))))))), ?_⟩
    obtain ⟨A1, rs, rfl, lr, hA, _⟩ := mat_at hv
    refine ⟨_, rfl, A1, rs, rfl, .inl hA, n, by rw [lr], by omega, by omega, tg, fun H2 tb => ?_⟩
    have s2 := Same.tabbed tg tb
    refine GXX.gen_range (lo := 0) (n := n) (brk := true) (fun i H' => Same H H' ∧ (List.range i).any (fun z => f x z && f z y) = false) ⟨s2, rfl⟩ (fun i H' hi hP => ?_) fun H' hP => ?_
    · obtain ⟨s', hz⟩ := hP
      rw [Int.zero_add]
      refine ⟨rfl, mat_ix (keepD s' _ _ hv) hx hi rfl rfl rfl ⟨_, rfl, ?_⟩⟩
      cases q : f x i with
      | true =>
        refine iteT (mat_ix (keepD s' _ _ hv) hi hy rfl rfl rfl ⟨_, rfl, fun hb => ⟨s', ?_⟩, fun hb => ?_⟩)
        · rw [List.range_succ, List.any_append, hz]
          show (false || ((f x i && f i y) || false)) = false
          rw [Bool.eq_false_iff.mpr hb, Bool.and_false]
          rfl
        · have e : leads n f x y = true := List.any_eq_true.mpr ⟨i, List.mem_range.mpr hi, by rw [q, hb]; rfl⟩
          rw [e] at k
          exact k _ s'
      | false =>
        refine iteF ⟨_, rfl, fun hb => ⟨s', ?_⟩, fun hb => nomatch hb⟩
        rw [List.range_succ, List.any_append, hz]
        show (false || ((f x i && f i y) || false)) = false
        rw [q]
        rfl
    · obtain ⟨s', hz⟩ := hP
      have e : leads n f x y = false := hz
      rw [e] at k
      exact k _ s'
end
def stepA (n : Nat) (f g : Nat → Nat → Bool) (x y : Nat) : Bool := leads n f x y || (f y x && g y x)
def stepB (n : Nat) (f g : Nat → Nat → Bool) (x y : Nat) : Bool := g x y || (f y x || leads n g x y)
section
variable {P : Program} {w : World} {K : PySem.W.Frag} {mg : Str → Option Value} {base : Heap}
def spMore (K : PySem.W.Frag) (P : Addr) (st : Nat → (Nat → Nat → Bool) → (Nat → Nat → Bool) → Nat → Nat → Bool) : Sp := fun vs H Q _ => ∃ (v u : V) (n : Nat) (f g : Nat → Nat → Bool), vs = [v, u] ∧ n ≤ 1000 ∧ Dp K H v (mat n f) ∧ Dp K H u (mat n g) ∧ GxR.TabG H P ∧ ∀ r H', Same H H' → Dp K H' r (mat n (st n f g)) → Q r H'
theorem rng_w {σ : St} {H : Hp} {n i : Nat} {p : Addr} {R : It → Hp → Prop} (e : σ[i]? = some (some (.ref p))) (hn : n ≤ 1000) (hp : H p = some (.rng 0 n)) (h : R (Itr 0 n) H) : GXX.iRngV (tVar i) σ H R :=
  ⟨_, e, p, 0, n, rfl, hp, ⟨by omega, by omega, by omega, by omega⟩, by
    rw [show ((n : Int) - 0).toNat = n by omega]
    exact h⟩
theorem ok__more_subsets (T : Txt K mg) (TB__leads : GxR.TabB base mg T.cc__leads T.pp__leads) : FnOk P w K mg base CX0 3 T.f__more_subsets T.d__more_subsets ["inside", "enough"] (spMore K T.pp__leads stepA) := by
  have G__leads := ok__leads (P := P) (w := w) (base := base) T TB__leads
  refine T.F__more_subsets.ok sc_more_subsets (fun vs H Q E h => ?_) (fun cdv A outer s H vs Q E hr h => ?_)
  · obtain ⟨v, u, n, f, g, rfl, _⟩ := h
    rfl
  · obtain ⟨v, u, n, f, g, rfl, hn, hv, hu, tg, k⟩ := h
    refine ⟨_, (pss_cons (ps_set (i := 2) sc_more_subsets.nd rfl (Or.inr rfl) (pe_callTy GXX.cr_range1 (by rfl) T.n_range (by decide +kernel) (pa_cons (pe_callB call_len_seq (by rfl) T.n_len (by decide +kernel) (pa_cons (pv 0) pa_nil)) pa_nil)))
      (pss_one (ps_ret (pe_lc (own := [("x", 3)]) (g := gName 3) (tt := tYes) rfl sc_more_subsets.nd (GXX.pi_rngV (pv 2)) (blkOk_by (own := [("x", 3)]) (N := N_more_subsets) (sc := defScope s_more_subsets) (by decide +kernel)) (fun _ _ _ _ _ => pg_name (i := 3) sc_more_subsets.nd rfl (Or.inr rfl)) (fun _ _ _ _ _ => pts_nil) (fun _ _ _ _ _ => (pe_lc (own := [("y", 4)]) (g := gName 4) (tt := tYes) rfl sc_more_subsets.nd (GXX.pi_rngV (pv 2)) (blkOk_by (own := [("y", 4)]) (by kernel_rfl!)) (fun _ _ _ _ _ => pg_name (i := 4) sc_more_subsets.nd rfl (Or.inl rfl)) (fun _ _ _ _ _ => pts_nil) (fun _ _ _ _ _ => (pe_or (pe_call G__leads (hr.mono (by decide)) (by rfl) T.g__leads T.F__leads.kp T.b__leads .nil pass0 (pa_cons (pv 0) (pa_cons (pv 3) (pa_cons (pv 4) pa_nil)))) (pe_one (pe_and (pe_ix (kq_ixL K rfl) (pe_ix (kq_ixL K rfl) (pv 0) (pv 4) (fun _ _ => rfl)) (pv 3) (fun _ _ => rfl)) (pe_one (pe_ix (kq_ixL K rfl) (pe_ix (kq_ixL K rfl) (pv 1) (pv 4) (fun _ _ => rfl)) (pv 3) (fun _ _ => rfl))))))))))))), ?_⟩
    obtain ⟨A1, rs, rfl, lr, hA, _⟩ := mat_at hv
    refine ⟨_, rfl, A1, rs, rfl, .inl hA, n, by rw [lr], fun p np => ?_⟩
    have s1 : Same H (upd H p (.rng 0 n)) := same_upd np
    generalize hH1 : upd H p (.rng 0 n) = H1
    rw [hH1] at s1
    have hp : H1 p = some (.rng 0 n) := by rw [← hH1, upd_same]
    refine mat_lc (n := n) (f := stepA n f g) hn (fun R h => rng_w rfl hn hp h) (fun _ => rfl) (fun x H2 hx s R h => rng_w rfl hn (s.at hp) h) (fun _ _ => rfl) (fun x y H2 hx hy s R h => ?_) fun A rs H2 s m _ _ => k _ _ (s1.trans s) m.dp
    have s2 := s1.trans s
    refine ⟨_, rfl, _, rfl, _, rfl, .ref A1, n, x, y, f, rfl, hn, keepD s2 _ _ hv, hx, hy, s2.2 _ tg, fun H3 s3 => ⟨_, rfl, ?_⟩⟩
    have h : ∀ H', Same H2 H' → R (.bl (leads n f x y || (f y x && g y x))) H' := h
    cases q : leads n f x y with
    | true =>
      rw [q] at h
      exact iteT (h _ s3)
    | false =>
      rw [q] at h
      refine iteF (mat_ix (keepD (s2.trans s3) _ _ hv) hy hx rfl rfl rfl ⟨_, rfl, ?_⟩)
      cases q2 : f y x with
      | true =>
        rw [q2] at h
        exact iteT (mat_ix (keepD (s2.trans s3) _ _ hu) hy hx rfl rfl rfl (h _ s3))
      | false =>
        rw [q2] at h
        exact iteF (h _ s3)
theorem ok__more_at_least (T : Txt K mg) (TB__leads : GxR.TabB base mg T.cc__leads T.pp__leads) : FnOk P w K mg base CX0 3 T.f__more_at_least T.d__more_at_least ["inside", "enough"] (spMore K T.pp__leads stepB) := by
  have G__leads := ok__leads (P := P) (w := w) (base := base) T TB__leads
  refine T.F__more_at_least.ok sc_more_at_least (fun vs H Q E h => ?_) (fun cdv A outer s H vs Q E hr h => ?_)
  · obtain ⟨v, u, n, f, g, rfl, _⟩ := h
    rfl
  · obtain ⟨v, u, n, f, g, rfl, hn, hv, hu, tg, k⟩ := h
    refine ⟨_, (pss_cons (ps_set (i := 2) sc_more_at_least.nd rfl (Or.inr rfl) (pe_callTy GXX.cr_range1 (by rfl) T.n_range (by decide +kernel) (pa_cons (pe_callB call_len_seq (by rfl) T.n_len (by decide +kernel) (pa_cons (pv 0) pa_nil)) pa_nil)))
      (pss_one (ps_ret (pe_lc (own := [("x", 3)]) (g := gName 3) (tt := tYes) rfl sc_more_at_least.nd (GXX.pi_rngV (pv 2)) (blkOk_by (own := [("x", 3)]) (N := N_more_at_least) (sc := defScope s_more_at_least) (by decide +kernel)) (fun _ _ _ _ _ => pg_name (i := 3) sc_more_at_least.nd rfl (Or.inr rfl)) (fun _ _ _ _ _ => pts_nil) (fun _ _ _ _ _ => (pe_lc (own := [("y", 4)]) (g := gName 4) (tt := tYes) rfl sc_more_at_least.nd (GXX.pi_rngV (pv 2)) (blkOk_by (own := [("y", 4)]) (by kernel_rfl!)) (fun _ _ _ _ _ => pg_name (i := 4) sc_more_at_least.nd rfl (Or.inl rfl)) (fun _ _ _ _ _ => pts_nil) (fun _ _ _ _ _ => (pe_or (pe_ix (kq_ixL K rfl) (pe_ix (kq_ixL K rfl) (pv 1) (pv 3) (fun _ _ => rfl)) (pv 4) (fun _ _ => rfl)) (pe_or (pe_ix (kq_ixL K rfl) (pe_ix (kq_ixL K rfl) (pv 0) (pv 4) (fun _ _ => rfl)) (pv 3) (fun _ _ => rfl)) (pe_one (pe_call G__leads (hr.mono (by decide)) (by rfl) T.g__leads T.F__leads.kp T.b__leads .nil pass0 (pa_cons (pv 1) (pa_cons (pv 3) (pa_cons (pv 4) pa_nil)))))))))))))), ?_⟩
    obtain ⟨A1, rs, rfl, lr, hA, _⟩ := mat_at hv
    refine ⟨_, rfl, A1, rs, rfl, .inl hA, n, by rw [lr], fun p np => ?_⟩
    have s1 : Same H (upd H p (.rng 0 n)) := same_upd np
    generalize hH1 : upd H p (.rng 0 n) = H1
    rw [hH1] at s1
    have hp : H1 p = some (.rng 0 n) := by rw [← hH1, upd_same]
    refine mat_lc (n := n) (f := stepB n f g) hn (fun R h => rng_w rfl hn hp h) (fun _ => rfl) (fun x H2 hx s R h => rng_w rfl hn (s.at hp) h) (fun _ _ => rfl) (fun x y H2 hx hy s R h => ?_) fun A rs H2 s m _ _ => k _ _ (s1.trans s) m.dp
    have s2 := s1.trans s
    have h : ∀ H', Same H2 H' → R (.bl (g x y || (f y x || leads n g x y))) H' := h
    refine mat_ix (keepD s2 _ _ hu) hx hy rfl rfl rfl ⟨_, rfl, ?_⟩
    cases q : g x y with
    | true =>
      rw [q] at h
      exact iteT (h _ (Same.refl _))
    | false =>
      rw [q] at h
      refine iteF (mat_ix (keepD s2 _ _ hv) hy hx rfl rfl rfl ⟨_, rfl, ?_⟩)
      cases q2 : f y x with
      | true =>
        rw [q2] at h
        exact iteT (h _ (Same.refl _))
      | false =>
        rw [q2] at h
        exact iteF ⟨_, rfl, _, rfl, _, rfl, u, n, x, y, g, rfl, hn, keepD s2 _ _ hu, hx, hy, s2.2 _ tg, fun H3 s3 => h _ s3⟩
end
/-! ### pairs -/
def prsRow (n : Nat) (p : Nat → Bool) (x : Nat) : List PyData := ((List.range n).filter p).map (pr x)
def prsTo (n x : Nat) (p : Nat → Nat → Bool) : List PyData := (List.range x).flatMap fun x => prsRow n (p x) x
def prsD (n : Nat) (p : Nat → Nat → Bool) : List PyData := prsTo n n p
theorem prsRow_succ (y : Nat) (p : Nat → Bool) (x : Nat) : prsRow (y + 1) p x = prsRow y p x ++ (if p y = true then [pr x y] else []) := by
  unfold prsRow
  rw [List.range_succ, List.filter_append, List.map_append]
  congr 1
  by_cases h : p y = true
  · rw [if_pos h, List.filter_cons_of_pos h]
    rfl
  · rw [if_neg h, List.filter_cons_of_neg h]
    rfl
theorem prsTo_succ (n x : Nat) (p : Nat → Nat → Bool) : prsTo n (x + 1) p = prsTo n x p ++ prsRow n (p x) x := by
  unfold prsTo
  rw [List.range_succ, List.flatMap_append]
  simp
theorem noLs_append : ∀ {a b : List PyData}, noLs a = true → noLs b = true → noLs (a ++ b) = true
  | [], _, _, h => h
  | d :: a, b, h1, h2 => by
    unfold noLs at h1
    rw [Bool.and_eq_true] at h1
    show noLs (d :: (a ++ b)) = true
    unfold noLs
    rw [h1.1, Bool.true_and]
    exact noLs_append h1.2 h2
theorem noL_pr (x y : Nat) : noL (pr x y) = true := by simp [pr, noL, noLs]
theorem noLs_row (p : Nat → Bool) (x : Nat) : ∀ n, noLs (prsRow n p x) = true
  | 0 => by
    unfold prsRow
    simp [noLs]
  | n + 1 => by
    rw [prsRow_succ]
    refine noLs_append (noLs_row p x n) ?_
    split
    · simp [noLs, noL_pr]
    · simp [noLs]
theorem noLs_to (n : Nat) (p : Nat → Nat → Bool) : ∀ x, noLs (prsTo n x p) = true
  | 0 => by
    unfold prsTo
    simp [noLs]
  | x + 1 => by
    rw [prsTo_succ]
    exact noLs_append (noLs_to n p x) (noLs_row _ _ _)
section
variable {K : PySem.W.Frag} {σ : St} {H1 : Hp} {te : TE} {n : Nat} {wi wi1 : TI} {tt1 : TT} {Q : VK}
/-- one more item behind the list at D -/
theorem snoc_dp {H : Hp} {D : Addr} {acc : List V} {ds : List PyData} {v : V} {d : PyData} (hD : H D = some (.lst acc)) (ha : DpAll K H acc ds) (hv : Dp K H v d) (n1 : noLs ds = true) (n2 : noL d = true) : DpAll K (upd H D (.lst (acc ++ [v]))) (acc ++ [v]) (ds ++ [d]) := by
  have eD : Ext D H (upd H D (.lst (acc ++ [v]))) := ext_upd (Ext.refl D H) hD
  exact DpAll.append (keepNs eD hD _ _ n1 ha) (.cons (keepN eD hD _ _ n2 hv) .nil)
theorem pairs_lc2 {i j : Nat} {p : Nat → Nat → Bool} (hn : n ≤ 30) (hw : ∀ R : It → Hp → Prop, R (Itr 0 n) H1 → wi σ H1 R)
    (hwp : ∀ v, wipe ((wipe σ [i, j]).set i v) [i, j] = wipe σ [i, j])
    (hw1 : ∀ x H, x < n → Same H1 H → ∀ R : It → Hp → Prop, R (Itr 0 n) H → wi1 ((wipe σ [i, j]).set i (some (.int (x : Nat)))) H R)
    (hwp1 : ∀ u v, wipe ((wipe ((wipe σ [i, j]).set i u) [j]).set j v) [j] = wipe ((wipe σ [i, j]).set i u) [j])
    (ht : ∀ x y H, x < n → y < n → Same H1 H → ∀ R : Bool → Hp → Prop, R (p x y) H → tt1 ((wipe ((wipe σ [i, j]).set i (some (.int (x : Nat)))) [j]).set j (some (.int (y : Nat)))) H R)
    (he : ∀ x y H, x < n → y < n → Same H1 H → ∀ R : VK, (∀ q, H q = none → R (.ref q) (upd H q (.tup [.int (x : Nat), .int (y : Nat)]))) → te ((wipe ((wipe σ [i, j]).set i (some (.int (x : Nat)))) [j]).set j (some (.int (y : Nat)))) H R)
    (k : ∀ D H2, Same H1 H2 → H1 D = none → Dp K H2 (.ref D) (.list (prsD n p)) → Q (.ref D) H2) : tLc2 wi (gName i) tYes wi1 (gName j) tt1 te [i, j] [j] σ H1 Q := by
  refine hw _ fun D nD => ?_
  let Pv : Nat → Nat → Hp → Prop := fun x y H => Same H1 H ∧ ∃ acc, H D = some (.lst acc) ∧ acc.length ≤ x * n + y ∧ DpAll K H acc (prsTo n x p ++ prsRow y (p x) x)
  have nn : ∀ x y, x < n → y ≤ n → x * n + y ≤ 900 := fun x y hx hy => by
    have h1 : (x + 1) * n ≤ 30 * 30 := Nat.mul_le_mul (by omega) hn
    rw [Nat.add_mul] at h1
    omega
  refine ⟨fun x m H => m = n - x ∧ x ≤ n ∧ Pv x 0 H, ⟨n, rfl, Nat.zero_le _, same_upd nD, [], upd_same, Nat.zero_le _, .nil⟩, fun x m H hW => ?_⟩
  obtain ⟨rfl, hx, hP⟩ := hW
  by_cases hlt : x < n
  · refine .inr ⟨hlt, Pv (x + 1) 0, fun H' p' => ⟨n - (x + 1), by omega, rfl, hlt, p'⟩, fun v H' y => ?_⟩
    obtain ⟨e, y⟩ := y
    subst e y
    rw [Int.zero_add]
    refine ⟨hwp _, ?_⟩
    dsimp only [tYes]
    rw [if_pos rfl]
    refine hw1 x _ hlt hP.1 _ ⟨fun y m H => m = n - y ∧ y ≤ n ∧ Pv x y H, ⟨n, rfl, Nat.zero_le _, hP⟩, fun y m H hW => ?_⟩
    obtain ⟨rfl, hy, hP2⟩ := hW
    by_cases hyt : y < n
    · refine .inr ⟨hyt, Pv x (y + 1), fun H' p' => ⟨n - (y + 1), by omega, rfl, hyt, p'⟩, fun v H' z => ?_⟩
      obtain ⟨e, z⟩ := z
      subst e z
      rw [Int.zero_add]
      obtain ⟨s2, acc, hD, hl, ha⟩ := hP2
      refine ⟨hwp1 _ _, ht x y _ hlt hyt s2 _ ?_⟩
      have hlen := nn x y hlt hy
      by_cases q : p x y = true
      · rw [if_pos q]
        refine he x y _ hlt hyt s2 _ fun r nr => ?_
        have s3 := same_upd (o := .tup [.int (x : Nat), .int (y : Nat)]) nr
        have hD3 := s3.at hD
        refine ⟨acc, hD3, by exact small1000 (by omega), same_fresh (s2.trans s3) nD, acc ++ [.ref r], upd_same, by rw [List.length_append]; show acc.length + 1 ≤ _; omega, ?_⟩
        rw [prsRow_succ, if_pos q, ← List.append_assoc]
        refine snoc_dp hD3 (keepDs s3 _ _ ha) (.tup (.of upd_same) (.cons (.int _) (.cons (.int _) .nil))) (noLs_append (noLs_to _ _ _) (noLs_row _ _ _)) (noL_pr x y)
      · rw [if_neg q]
        refine ⟨s2, acc, hD, by omega, ?_⟩
        rw [prsRow_succ, if_neg q, List.append_nil]
        exact ha
    · have e : y = n := by omega
      subst e
      refine .inl ⟨Nat.le_refl _, ?_⟩
      obtain ⟨s2, acc, hD, hl, ha⟩ := hP2
      refine ⟨s2, acc, hD, by rw [Nat.add_mul]; omega, ?_⟩
      rw [prsTo_succ]
      have e0 : prsRow 0 (p (x + 1)) (x + 1) = [] := rfl
      rw [e0, List.append_nil]
      exact ha
  · have e : x = n := by omega
    subst e
    obtain ⟨s2, acc, hD, hl, ha⟩ := hP
    refine .inl ⟨Nat.le_refl _, k D _ s2 nD (.lst (.of hD) ?_)⟩
    have e0 : prsRow 0 (p x) x = [] := rfl
    rw [e0, List.append_nil] at ha
    exact ha
end
section
variable {P : Program} {w : World} {K : PySem.W.Frag} {mg : Str → Option Value} {base : Heap}
def apart (f : Nat → Nat → Bool) (x y : Nat) : Bool := decide (x ≠ y) && f x y
def spPairs (K : PySem.W.Frag) : Sp := fun vs H Q _ => ∃ (v : V) (n : Nat) (f : Nat → Nat → Bool), vs = [v] ∧ n ≤ 30 ∧ Dp K H v (mat n f) ∧ ∀ r H', Same H H' → Dp K H' r (.tuple (prsD n (apart f))) → Q r H'
theorem ok__different_pairs (T : Txt K mg) : FnOk P w K mg base CX0 1 T.f__different_pairs T.d__different_pairs ["table"] (spPairs K) := by
  refine T.F__different_pairs.ok sc_different_pairs (fun vs H Q E h => ?_) (fun cdv A outer s H vs Q E hr h => ?_)
  · obtain ⟨v, n, f, rfl, _⟩ := h
    rfl
  · obtain ⟨v, n, f, rfl, hn, hv, k⟩ := h
    refine ⟨_, (pss_cons (ps_set (i := 1) sc_different_pairs.nd rfl (Or.inr rfl) (pe_callTy GXX.cr_range1 (by rfl) T.n_range (by decide +kernel) (pa_cons (pe_callB call_len_seq (by rfl) T.n_len (by decide +kernel) (pa_cons (pv 0) pa_nil)) pa_nil)))
      (pss_one (ps_ret (pe_callTy call_tuple_of (by rfl) T.n_tuple (by decide +kernel) (pa_cons (pe_lc2 (own := [("x", 2), ("y", 3)]) (g := gName 2) (tt := tYes) (vs1 := [3]) (g1 := gName 3) rfl sc_different_pairs.nd (GXX.pi_rngV (pv 1)) (blkOk_by (own := [("x", 2), ("y", 3)]) (N := N_different_pairs) (sc := defScope s_different_pairs) (by decide +kernel)) (by decide) (fun _ _ _ _ _ => pg_name (i := 2) sc_different_pairs.nd rfl (Or.inl rfl)) (fun _ _ _ _ _ => pts_nil) (fun _ _ _ _ _ => (GXX.pi_rngV (pv 1))) (fun _ _ _ _ _ => pg_name (i := 3) sc_different_pairs.nd rfl (Or.inl rfl)) (fun _ _ _ _ _ => pts_one (PW.pt (pw_and (pt_cmpR op_ne (pv 2) (pv 3) (nomark _)) (pw_and1 (pt_val (pe_ix (kq_ixL K rfl) (pe_ix (kq_ixL K rfl) (pv 0) (pv 2) (fun _ _ => rfl)) (pv 3) (fun _ _ => rfl))))))) (fun _ _ _ _ _ => (pe_tup (pa_cons (pv 2) (pa_cons (pv 3) pa_nil))))) pa_nil))))), ?_⟩
    obtain ⟨A1, rs, rfl, lr, hA, _⟩ := mat_at hv
    refine ⟨_, rfl, A1, rs, rfl, .inl hA, n, by rw [lr], fun p np => ?_⟩
    have s1 : Same H (upd H p (.rng 0 n)) := same_upd np
    generalize hH1 : upd H p (.rng 0 n) = H1
    rw [hH1] at s1
    have hp : H1 p = some (.rng 0 n) := by rw [← hH1, upd_same]
    dsimp only [gName, tSeq, tRet, tCB]
    refine cons_at (pairs_lc2 (K := K) (n := n) (p := apart f) hn (fun R h => rng_w rfl (by omega) hp h) (fun _ => rfl) (fun x H2 hx s R h => rng_w rfl (by omega) (s.at hp) h) (fun _ _ => rfl) (fun x y H2 hx hy s R h => ?_) (fun x y H2 hx hy s R h => ⟨_, rfl, _, rfl, by show 2 ≤ sizeLine; decide, h⟩) fun D H2 s nD hD => ?_)
    · have s2 := s1.trans s
      refine ⟨_, rfl, _, rfl, rfl, _, rfl, ?_⟩
      have h : R (decide (x ≠ y) && f x y) H2 := h
      by_cases e : x = y
      · subst e
        rw [decide_eq_true rfl]
        refine iteF ?_
        rw [decide_eq_false (show ¬ x ≠ x from fun z => z rfl), Bool.false_and] at h
        exact h
      · rw [decide_eq_false (show ¬ V.int (x : Nat) = V.int (y : Nat) from fun z => e (by have := V.int.inj z; omega))]
        rw [decide_eq_true (show x ≠ y from e), Bool.true_and] at h
        exact iteT (mat_ix (keepD s2 _ _ hv) hx hy rfl rfl rfl ⟨_, rfl, h⟩)
    · obtain ⟨D', acc, e, hD', ha⟩ := dp_lst hD
      cases e
      exact ⟨D, acc, rfl, .inl ⟨hD', fun l nl => k _ _ ((s1.trans s).trans (same_upd nl)) (.tup (.of upd_same) (keepDs (same_upd nl) _ _ ha))⟩⟩
end
/-! ### the least tables -/
def leq (n : Nat) (f g : Nat → Nat → Bool) : Prop := ∀ x y, x < n → y < n → f x y = true → g x y = true
structure Closed (n : Nat) (f g : Nat → Nat → Bool) : Prop where
  tr : ∀ x y z, x < n → y < n → z < n → f x y = true → f y z = true → f x z = true
  an : ∀ x y, x < n → y < n → f y x = true → g y x = true → f x y = true
  up : ∀ x y, x < n → y < n → f y x = true → g x y = true
  tg : ∀ x y z, x < n → y < n → z < n → g x y = true → g y z = true → g x z = true
/-- at least what is given, at most what all closed ones have -/
structure Under (n : Nat) (f0 g0 f g : Nat → Nat → Bool) : Prop where
  lf : leq n f0 f
  lg : leq n g0 g
  le : ∀ f' g', Closed n f' g' → leq n f0 f' → leq n g0 g' → leq n f f' ∧ leq n g g'
structure Least (n : Nat) (f0 g0 f g : Nat → Nat → Bool) : Prop where
  un : Under n f0 g0 f g
  cl : Closed n f g
theorem leq.refl (n : Nat) (f : Nat → Nat → Bool) : leq n f f := fun _ _ _ _ h => h
theorem leq.trans {n : Nat} {f g h : Nat → Nat → Bool} (a : leq n f g) (b : leq n g h) : leq n f h := fun x y hx hy q => b x y hx hy (a x y hx hy q)
theorem leq.eq {n : Nat} {f g : Nat → Nat → Bool} (a : leq n f g) (b : leq n g f) : ∀ x y, x < n → y < n → f x y = g x y := fun x y hx hy => by
  cases h1 : f x y with
  | true => exact (a x y hx hy h1).symm
  | false =>
    cases h2 : g x y with
    | true => rw [b x y hx hy h2] at h1; cases h1
    | false => rfl
theorem Least.same {n : Nat} {f0 g0 f1 g1 f g f' g' : Nat → Nat → Bool} (a : Least n f0 g0 f g) (b : Least n f1 g1 f' g') (ef : ∀ x y, x < n → y < n → f0 x y = f1 x y) (eg : ∀ x y, x < n → y < n → g0 x y = g1 x y) :
    (∀ x y, x < n → y < n → f x y = f' x y) ∧ (∀ x y, x < n → y < n → g x y = g' x y) := by
  have h1 := a.un.le f' g' b.cl (fun x y hx hy q => b.un.lf x y hx hy (by rw [← ef x y hx hy]; exact q)) (fun x y hx hy q => b.un.lg x y hx hy (by rw [← eg x y hx hy]; exact q))
  have h2 := b.un.le f g a.cl (fun x y hx hy q => a.un.lf x y hx hy (by rw [ef x y hx hy]; exact q)) (fun x y hx hy q => a.un.lg x y hx hy (by rw [eg x y hx hy]; exact q))
  exact ⟨leq.eq h1.1 h2.1, leq.eq h1.2 h2.2⟩
theorem leads_true {n : Nat} {f : Nat → Nat → Bool} {x y : Nat} : leads n f x y = true ↔ ∃ z, z < n ∧ f x z = true ∧ f z y = true := by
  unfold leads
  rw [List.any_eq_true]
  constructor
  · rintro ⟨z, hz, h⟩
    rw [Bool.and_eq_true] at h
    exact ⟨z, List.mem_range.mp hz, h.1, h.2⟩
  · rintro ⟨z, hz, h1, h2⟩
    exact ⟨z, List.mem_range.mpr hz, by rw [h1, h2]; rfl⟩
theorem stepA_true {n : Nat} {f g : Nat → Nat → Bool} {x y : Nat} : stepA n f g x y = true ↔ (∃ z, z < n ∧ f x z = true ∧ f z y = true) ∨ (f y x = true ∧ g y x = true) := by
  unfold stepA
  rw [Bool.or_eq_true, leads_true, Bool.and_eq_true]
theorem stepB_true {n : Nat} {f g : Nat → Nat → Bool} {x y : Nat} : stepB n f g x y = true ↔ g x y = true ∨ f y x = true ∨ ∃ z, z < n ∧ g x z = true ∧ g z y = true := by
  unfold stepB
  rw [Bool.or_eq_true, Bool.or_eq_true, leads_true]
def Refl (n : Nat) (f : Nat → Nat → Bool) : Prop := ∀ x, x < n → f x x = true
theorem leq_stepA {n : Nat} {f g : Nat → Nat → Bool} (r : Refl n f) : leq n f (stepA n f g) := fun x _ hx _ h => stepA_true.mpr (.inl ⟨x, hx, r x hx, h⟩)
theorem leq_stepB {n : Nat} {f g : Nat → Nat → Bool} : leq n g (stepB n f g) := fun _ _ _ _ h => stepB_true.mpr (.inl h)
theorem Under.step {n : Nat} {f0 g0 f g : Nat → Nat → Bool} (r : Refl n f) (u : Under n f0 g0 f g) : Under n f0 g0 (stepA n f g) (stepB n (stepA n f g) g) := by
  refine ⟨u.lf.trans (leq_stepA r), u.lg.trans leq_stepB, fun f' g' c h1 h2 => ?_⟩
  obtain ⟨hf, hg⟩ := u.le f' g' c h1 h2
  have ha : leq n (stepA n f g) f' := fun x y hx hy h => by
    rcases stepA_true.mp h with ⟨z, hz, p, q⟩ | ⟨p, q⟩
    · exact c.tr x z y hx hz hy (hf x z hx hz p) (hf z y hz hy q)
    · exact c.an x y hx hy (hf y x hy hx p) (hg y x hy hx q)
  refine ⟨ha, fun x y hx hy h => ?_⟩
  rcases stepB_true.mp h with p | p | ⟨z, hz, p, q⟩
  · exact hg x y hx hy p
  · exact c.up x y hx hy (ha y x hy hx p)
  · exact c.tg x z y hx hz hy (hg x z hx hz p) (hg z y hz hy q)
theorem closed_fix {n : Nat} {f g : Nat → Nat → Bool} (ef : ∀ x y, x < n → y < n → stepA n f g x y = f x y) (eg : ∀ x y, x < n → y < n → stepB n (stepA n f g) g x y = g x y) : Closed n f g := by
  refine ⟨fun x y z hx hy hz p q => ?_, fun x y hx hy p q => ?_, fun x y hx hy p => ?_, fun x y z hx hy hz p q => ?_⟩
  · rw [← ef x z hx hz]
    exact stepA_true.mpr (.inl ⟨y, hy, p, q⟩)
  · rw [← ef x y hx hy]
    exact stepA_true.mpr (.inr ⟨p, q⟩)
  · rw [← eg x y hx hy]
    exact stepB_true.mpr (.inr (.inl (by rw [ef y x hy hx]; exact p)))
  · rw [← eg x z hx hz]
    exact stepB_true.mpr (.inr (.inr ⟨y, hy, p, q⟩))
/-- how many pairs a table lacks -/
def lack (n : Nat) (f : Nat → Nat → Bool) : Nat := ((List.range n).flatMap fun x => (List.range n).filter fun y => !f x y).length
theorem filter_le {p q : Nat → Bool} : ∀ {l : List Nat}, (∀ y ∈ l, q y = true → p y = true) → (l.filter q).length ≤ (l.filter p).length
  | [], _ => Nat.le_refl _
  | y :: l, h => by
    have ih := filter_le (p := p) (q := q) (l := l) fun z hz => h z (List.mem_cons_of_mem _ hz)
    cases hq : q y with
    | true =>
      rw [List.filter_cons_of_pos hq, List.filter_cons_of_pos (h y List.mem_cons_self hq), List.length_cons, List.length_cons]
      omega
    | false =>
      rw [List.filter_cons_of_neg (by rw [hq]; decide)]
      cases hp : p y with
      | true => rw [List.filter_cons_of_pos hp, List.length_cons]; omega
      | false => rw [List.filter_cons_of_neg (by rw [hp]; decide)]; exact ih
theorem filter_lt {p q : Nat → Bool} : ∀ {l : List Nat}, (∀ y ∈ l, q y = true → p y = true) → (∃ y ∈ l, p y = true ∧ q y = false) → (l.filter q).length < (l.filter p).length
  | [], _, h => by
    obtain ⟨_, h, _⟩ := h
    cases h
  | y :: l, h, e => by
    have ih := filter_le (p := p) (q := q) (l := l) fun z hz => h z (List.mem_cons_of_mem _ hz)
    obtain ⟨z, hz, h1, h2⟩ := e
    rcases List.mem_cons.mp hz with rfl | hz
    · rw [List.filter_cons_of_neg (by rw [h2]; decide), List.filter_cons_of_pos h1, List.length_cons]
      omega
    · have ih2 := filter_lt (p := p) (q := q) (l := l) (fun z hz => h z (List.mem_cons_of_mem _ hz)) ⟨z, hz, h1, h2⟩
      cases hq : q y with
      | true =>
        rw [List.filter_cons_of_pos hq, List.filter_cons_of_pos (h y List.mem_cons_self hq), List.length_cons, List.length_cons]
        omega
      | false =>
        rw [List.filter_cons_of_neg (by rw [hq]; decide)]
        cases hp : p y with
        | true => rw [List.filter_cons_of_pos hp, List.length_cons]; omega
        | false => rw [List.filter_cons_of_neg (by rw [hp]; decide)]; exact ih2
theorem flat_le {n : Nat} {p q : Nat → Nat → Bool} : ∀ {l : List Nat}, (∀ x ∈ l, ((List.range n).filter (q x)).length ≤ ((List.range n).filter (p x)).length) → (l.flatMap fun x => (List.range n).filter (q x)).length ≤ (l.flatMap fun x => (List.range n).filter (p x)).length
  | [], _ => Nat.le_refl _
  | x :: l, h => by
    have ih := flat_le (l := l) fun z hz => h z (List.mem_cons_of_mem _ hz)
    have := h x List.mem_cons_self
    rw [List.flatMap_cons, List.flatMap_cons, List.length_append, List.length_append]
    omega
theorem flat_lt {n : Nat} {p q : Nat → Nat → Bool} : ∀ {l : List Nat}, (∀ x ∈ l, ((List.range n).filter (q x)).length ≤ ((List.range n).filter (p x)).length) → (∃ x ∈ l, ((List.range n).filter (q x)).length < ((List.range n).filter (p x)).length) → (l.flatMap fun x => (List.range n).filter (q x)).length < (l.flatMap fun x => (List.range n).filter (p x)).length
  | [], _, h => by
    obtain ⟨_, h, _⟩ := h
    cases h
  | x :: l, h, e => by
    have ih := flat_le (l := l) fun z hz => h z (List.mem_cons_of_mem _ hz)
    have h0 := h x List.mem_cons_self
    rw [List.flatMap_cons, List.flatMap_cons, List.length_append, List.length_append]
    obtain ⟨z, hz, h1⟩ := e
    rcases List.mem_cons.mp hz with rfl | hz
    · omega
    · have := flat_lt (l := l) (fun z hz => h z (List.mem_cons_of_mem _ hz)) ⟨z, hz, h1⟩
      omega
theorem lack_le {n : Nat} {f g : Nat → Nat → Bool} (h : leq n f g) : lack n g ≤ lack n f := by
  refine flat_le (p := fun x y => !f x y) (q := fun x y => !g x y) fun x hx => filter_le fun y hy q => ?_
  have := h x y (List.mem_range.mp hx) (List.mem_range.mp hy)
  cases hf : f x y with
  | true => rw [this hf] at q; cases q
  | false => rfl
theorem lack_lt {n : Nat} {f g : Nat → Nat → Bool} (h : leq n f g) (e : ∃ x y, x < n ∧ y < n ∧ f x y ≠ g x y) : lack n g < lack n f := by
  have pw : ∀ x y, x < n → y < n → (!g x y) = true → (!f x y) = true := fun x y hx hy q => by
    cases hf : f x y with
    | true => rw [h x y hx hy hf] at q; cases q
    | false => rfl
  obtain ⟨x, y, hx, hy, ne⟩ := e
  refine flat_lt (p := fun x y => !f x y) (q := fun x y => !g x y) (fun x hx => filter_le fun y hy q => pw x y (List.mem_range.mp hx) (List.mem_range.mp hy) q) ⟨x, List.mem_range.mpr hx, filter_lt (fun y hy q => pw x y hx (List.mem_range.mp hy) q) ⟨y, List.mem_range.mpr hy, ?_⟩⟩
  cases hf : f x y with
  | true =>
    rw [hf, h x y hx hy hf] at ne
    exact (ne rfl).elim
  | false =>
    cases hg : g x y with
    | true => exact ⟨rfl, rfl⟩
    | false => rw [hf, hg] at ne; exact (ne rfl).elim
theorem lack_most {n : Nat} (f : Nat → Nat → Bool) : ∀ {l : List Nat}, (l.flatMap fun x => (List.range n).filter fun y => !f x y).length ≤ l.length * n
  | [] => Nat.zero_le _
  | x :: l => by
    have ih := lack_most (n := n) f (l := l)
    have h : ((List.range n).filter fun y => !f x y).length ≤ n := by
      have := List.length_filter_le (fun y => !f x y) (List.range n)
      rw [List.length_range] at this
      exact this
    rw [List.flatMap_cons, List.length_append, List.length_cons, Nat.add_mul]
    omega
theorem lack_le16 {n : Nat} (hn : n ≤ 4) (f : Nat → Nat → Bool) : lack n f ≤ 16 := by
  have h := lack_most (n := n) f (l := List.range n)
  rw [List.length_range] at h
  have : n * n ≤ 4 * 4 := Nat.mul_le_mul hn hn
  exact Nat.le_trans h this
/-! ### what premises give to begin with -/
def allP : PyData → List PyData
  | .tuple [.str u, .int x, .int y] => if u = "all" then [.tuple [.int x, .int y]] else []
  | _ => []
def cntP : PyData → List PyData
  | .tuple [.str u, .int x, .int y] => if u = "as many" then [.tuple [.int x, .int y]] else if u = "fewer" then [.tuple [.int y, .int x]] else []
  | _ => []
def diag (n : Nat) : List PyData := (List.range n).map fun x => pr x x
def parts (n : Nat) (ps : List PyData) : List PyData := diag n ++ ps.flatMap allP
def counts (ps : List PyData) : List PyData := ps.flatMap cntP
def f0 (n : Nat) (ps : List PyData) (x y : Nat) : Bool := inW (parts n ps) (pr x y)
def g0 (ps : List PyData) (x y : Nat) : Bool := inW (counts ps) (pr x y)
/-- a list of pairs of integers -/
def Prs (ds : List PyData) : Prop := ∀ d ∈ ds, ∃ x y : Int, d = .tuple [.int x, .int y]
theorem Prs.append {a b : List PyData} (h1 : Prs a) (h2 : Prs b) : Prs (a ++ b) := fun d hd => (List.mem_append.mp hd).elim (h1 d) (h2 d)
theorem prs_diag (n : Nat) : Prs (diag n) := fun d hd => by
  obtain ⟨x, _, rfl⟩ := List.mem_map.mp hd
  exact ⟨x, x, rfl⟩
theorem prs_all (d : PyData) : Prs (allP d) := by
  unfold allP
  split
  · split
    · intro d hd
      rw [List.mem_singleton] at hd
      exact ⟨_, _, hd⟩
    · intro d hd
      cases hd
  · intro d hd
    cases hd
theorem prs_cnt (d : PyData) : Prs (cntP d) := by
  unfold cntP
  split
  · split
    · intro d hd
      rw [List.mem_singleton] at hd
      exact ⟨_, _, hd⟩
    · split
      · intro d hd
        rw [List.mem_singleton] at hd
        exact ⟨_, _, hd⟩
      · intro d hd
        cases hd
  · intro d hd
    cases hd
theorem prs_parts (n : Nat) (ps : List PyData) : Prs (parts n ps) := Prs.append (prs_diag n) fun d hd => by
  obtain ⟨e, _, h⟩ := List.mem_flatMap.mp hd
  exact prs_all e d h
theorem prs_counts (ps : List PyData) : Prs (counts ps) := fun d hd => by
  obtain ⟨e, _, h⟩ := List.mem_flatMap.mp hd
  exact prs_cnt e d h
theorem Prs.noLs : ∀ {ds : List PyData}, Prs ds → noLs ds = true
  | [], _ => by
    unfold V.noLs
    rfl
  | d :: ds, h => by
    unfold V.noLs
    obtain ⟨x, y, rfl⟩ := h d List.mem_cons_self
    rw [Prs.noLs fun e he => h e (List.mem_cons_of_mem _ he)]
    simp [noL, V.noLs]
theorem Prs.lay : ∀ {ds : List PyData}, Prs ds → PyData.canLayAll0 ds = true ∧ PyData.depthAll ds ≤ 2
  | [], _ => by simp [PyData.canLayAll0, PyData.depthAll]
  | d :: ds, h => by
    obtain ⟨x, y, rfl⟩ := h d List.mem_cons_self
    obtain ⟨h1, h2⟩ := Prs.lay (ds := ds) fun e he => h e (List.mem_cons_of_mem _ he)
    simp only [PyData.canLayAll0, PyData.canLay0, PyData.depthAll, PyData.depth, h1, Bool.and_true, true_and]
    omega
theorem Prs.shaped {ds : List PyData} (h : Prs ds) : SeqAt.shaped (.list ds) = true := by
  obtain ⟨h1, h2⟩ := h.lay
  simp only [SeqAt.shaped, PyData.canLay0, h1, PyData.depth, Bool.true_and]
  exact decide_eq_true (by omega)
theorem len_all (d : PyData) : (allP d).length ≤ 1 := by
  unfold allP
  split
  · split <;> simp
  · simp
theorem len_cnt (d : PyData) : (cntP d).length ≤ 1 := by
  unfold cntP
  split
  · split
    · simp
    · split <;> simp
  · simp
theorem len_flat {g : PyData → List PyData} (hg : ∀ d, (g d).length ≤ 1) : ∀ ps : List PyData, (ps.flatMap g).length ≤ ps.length
  | [] => Nat.le_refl _
  | d :: ps => by
    have := hg d
    have := len_flat hg ps
    rw [List.flatMap_cons, List.length_append, List.length_cons]
    omega
/-! ### tables compared -/
theorem eqvAll_map {α : Type} {a b : α → PyData} : ∀ {l : List α}, PyData.eqvAll (l.map a) (l.map b) = l.all fun x => PyData.eqv (a x) (b x)
  | [] => by simp [PyData.eqvAll]
  | x :: l => by
    rw [List.map_cons, List.map_cons, List.all_cons, ← eqvAll_map (l := l)]
    simp [PyData.eqvAll]
theorem eqv_mat {n : Nat} {f g : Nat → Nat → Bool} : PyData.eqv (mat n f) (mat n g) = true ↔ ∀ x y, x < n → y < n → f x y = g x y := by
  unfold mat
  rw [PyData.eqv, eqvAll_map, List.all_eq_true]
  constructor
  · intro h x y hx hy
    have := h x (List.mem_range.mpr hx)
    rw [PyData.eqv, eqvAll_map, List.all_eq_true] at this
    have := this y (List.mem_range.mpr hy)
    rw [PyData.eqv] at this
    exact eq_of_beq this
  · intro h x hx
    rw [PyData.eqv, eqvAll_map, List.all_eq_true]
    intro y hy
    rw [PyData.eqv, h x y (List.mem_range.mp hx) (List.mem_range.mp hy)]
    exact beq_self_eq_true _
theorem eqv_two {n : Nat} {f g f' g' : Nat → Nat → Bool} : PyData.eqv (.tuple [mat n f, mat n g]) (.tuple [mat n f', mat n g']) = true ↔ (∀ x y, x < n → y < n → f x y = f' x y) ∧ (∀ x y, x < n → y < n → g x y = g' x y) := by
  rw [PyData.eqv]
  simp only [PyData.eqvAll, Bool.and_true, Bool.and_eq_true, eqv_mat]
theorem lay_map {α : Type} {a : α → PyData} {k : Nat} : ∀ {l : List α}, (∀ x ∈ l, PyData.canLay0 (a x) = true ∧ PyData.depth (a x) ≤ k) → PyData.canLayAll0 (l.map a) = true ∧ PyData.depthAll (l.map a) ≤ k + 1
  | [], _ => by simp [PyData.canLayAll0, PyData.depthAll]
  | x :: l, h => by
    obtain ⟨h1, h2⟩ := lay_map (l := l) fun y hy => h y (List.mem_cons_of_mem _ hy)
    obtain ⟨h3, h4⟩ := h x List.mem_cons_self
    simp only [List.map_cons, PyData.canLayAll0, PyData.depthAll, h1, h3, Bool.and_true, true_and]
    omega
theorem mat_lay (n : Nat) (f : Nat → Nat → Bool) : PyData.canLay0 (mat n f) = true ∧ PyData.depth (mat n f) ≤ 8 := by
  unfold mat
  have h := lay_map (k := 4) (a := fun x => PyData.list ((List.range n).map fun y => .bool (f x y))) (l := List.range n) fun x _ => by
    have h := lay_map (k := 1) (a := fun y => PyData.bool (f x y)) (l := List.range n) fun y _ => by simp [PyData.canLay0, PyData.depth]
    simp only [PyData.canLay0, PyData.depth, h.1, true_and]
    have := h.2
    omega
  simp only [PyData.canLay0, PyData.depth, h.1, true_and]
  have := h.2
  omega
theorem sh_two {n : Nat} {f g : Nat → Nat → Bool} : SeqAt.shaped (.tuple [mat n f, mat n g]) = true := by
  have h1 := mat_lay n f
  have h2 := mat_lay n g
  simp only [SeqAt.shaped, PyData.canLay0, PyData.canLayAll0, PyData.depth, PyData.depthAll, h1.1, h2.1, Bool.and_true, Bool.true_and]
  have := h1.2
  have := h2.2
  exact decide_eq_true (by omega)
theorem strne {a b : Str} (h : a ≠ b) : decide (V.str a = V.str b) = false := decide_eq_false fun z => h (V.str.inj z)
theorem inW_append {a b : List PyData} {d : PyData} : inW (a ++ b) d = (inW a d || inW b d) := List.any_append
theorem refl_f0 (n : Nat) (ps : List PyData) : Refl n (f0 n ps) := fun x hx => by
  unfold f0 parts
  rw [inW_append]
  have : inW (diag n) (pr x x) = true := List.any_eq_true.mpr ⟨pr x x, List.mem_map.mpr ⟨x, List.mem_range.mpr hx, rfl⟩, by simp [pr, PyData.eqv, PyData.eqvAll]⟩
  rw [this]
  rfl
section
variable {K : PySem.W.Frag} {H : Hp} {d : PyData}
theorem da1 {vs : List V} (h : DpAll K H vs [d]) : ∃ v, vs = [v] ∧ Dp K H v d := by
  cases h with
  | cons h t =>
  cases t
  exact ⟨_, rfl, h⟩
theorem da2 {vs : List V} {e : PyData} (h : DpAll K H vs [d, e]) : ∃ v u, vs = [v, u] ∧ Dp K H v d ∧ Dp K H u e := by
  cases h with
  | cons h t =>
  obtain ⟨u, rfl, h2⟩ := da1 t
  exact ⟨_, _, rfl, h, h2⟩
end
def Sens (n m : Int) (dss : List PyData) : Prop := ∀ d ∈ dss, ∃ ds, d = .tuple ds ∧ Sen n m ds
theorem Sens.sfs {n m : Int} {dss : List PyData} (h : Sens n m dss) : ∀ d ∈ dss, safe d = true := fun d hd => by
  obtain ⟨ds, rfl, hs⟩ := h d hd
  exact hs.safe
theorem Sens.shss {n m : Int} {dss : List PyData} (h : Sens n m dss) : shss (.tuple dss) = true := List.all_eq_true.mpr fun d hd => by
  obtain ⟨ds, rfl, hs⟩ := h d hd
  exact hs.shs
theorem okL_of {ds : List PyData} (h : ∀ a b c, ds = [a, .int b, .int c] → False) : okL ds = true := by
  unfold okL
  split
  · exact (h _ _ _ rfl).elim
  · exact (h _ _ _ rfl).elim
  · rfl
theorem Sens.safeL {n m : Int} {dss : List PyData} (h : Sens n m dss) : safe (.list dss) = true := by
  unfold safe
  rw [Bool.and_eq_true]
  refine ⟨okL_of fun a b c z => ?_, safe_all.mpr h.sfs⟩
  obtain ⟨ds, e, _⟩ := h (.int b) (by rw [z]; simp)
  cases e
theorem noLs_of {n m : Int} : ∀ {dss : List PyData}, Sens n m dss → noLs dss = true
  | [], _ => by
    unfold noLs
    rfl
  | d :: dss, h => by
    unfold noLs
    obtain ⟨ds, rfl, hs⟩ := h d List.mem_cons_self
    rw [hs.noL, Bool.true_and]
    exact noLs_of fun e he => h e (List.mem_cons_of_mem _ he)
section
variable {P : Program} {w : World} {K : PySem.W.Frag} {mg : Str → Option Value} {base : Heap}
/-- a sentence as the program meets it -/
inductive SV (n : Nat) : List V → List PyData → Prop
  | noun (w : Str) (x y : Nat) (hx : x < n) (hy : y < n) : SV n [.str w, .int x, .int y] [.str w, .int x, .int y]
  | self (q : Str) (x : Int) (b : Bool) (v : Int) : SV n [.str "self", .str q, .int x, .bl b, .int v] [.str "self", .str q, .int x, .bool b, .int v]
  | verb (q : Str) (x : Int) (b : Bool) (v : Int) (c : Bool) (p : Str) (y : Int) : SV n [.str "verb", .str q, .int x, .bl b, .int v, .bl c, .str p, .int y] [.str "verb", .str q, .int x, .bool b, .int v, .bool c, .str p, .int y]
theorem flat_v {H : Hp} : ∀ {xs : List V} {ds : List PyData}, DpAll K H xs ds → ds.all (fun d => isI d || isS d) = true → xs = ds.map fun d => match d with | .bool b => V.bl b | .int i => V.int i | .str x => V.str x | _ => V.non
  | _, _, .nil, _ => rfl
  | _, _, @DpAll.cons _ _ v d vs ds h t, q => by
    rw [List.all_cons, Bool.and_eq_true] at q
    have ih := flat_v t q.2
    rw [List.map_cons, ← ih]
    cases h with
    | bl b => rfl
    | int i => rfl
    | str x => rfl
    | non => cases q.1
    | lst _ _ => cases q.1
    | tup _ _ => cases q.1
theorem sv_of {H : Hp} {xs : List V} {ds : List PyData} {n : Nat} {m : Int} (h : DpAll K H xs ds) (s : Sen n m ds) : SV n xs ds := by
  cases s with
  | noun w x y hw x0 x1 y0 y1 =>
    have e := flat_v h rfl
    subst e
    obtain ⟨x, rfl⟩ := Int.eq_ofNat_of_zero_le x0
    obtain ⟨y, rfl⟩ := Int.eq_ofNat_of_zero_le y0
    exact .noun w x y (by omega) (by omega)
  | self q x b v =>
    have e := flat_v h rfl
    subst e
    exact .self q x b v
  | verb q x b v c p y =>
    have e := flat_v h rfl
    subst e
    exact .verb q x b v c p y
theorem all_all (x y : Nat) : allP (.tuple [.str "all", .int x, .int y]) = [pr x y] := by simp [allP, pr]
theorem all_not {w : Str} (h : w ≠ "all") (x y : Int) : allP (.tuple [.str w, .int x, .int y]) = [] := by simp [allP, h]
theorem cnt_as (x y : Nat) : cntP (.tuple [.str "as many", .int x, .int y]) = [pr x y] := by simp [cntP, pr]
theorem cnt_fewer (x y : Nat) : cntP (.tuple [.str "fewer", .int x, .int y]) = [pr y x] := by
  have h : ("fewer" : Str) ≠ "as many" := by decide +kernel
  simp [cntP, pr, h]
theorem cnt_not {w : Str} (h : w ≠ "as many") (h2 : w ≠ "fewer") (x y : Int) : cntP (.tuple [.str w, .int x, .int y]) = [] := by simp [cntP, h, h2]
def spTables (K : PySem.W.Frag) (PP : Addr) : Sp := fun vs H Q _ => ∃ (x : V) (n : Nat) (m : Int) (ps : List PyData), vs = [.int n, x] ∧ n ≤ 4 ∧ Dp K H x (.tuple ps) ∧ Sens n m ps ∧ ps.length ≤ 8 ∧ GxR.TabG H PP ∧ ∀ r H' f g, Same H H' → Dp K H' r (.tuple [mat n f, mat n g]) → Least n (f0 n ps) (g0 ps) f g → Q r H'
/-- the two lists as they grow -/
structure Grow (K : PySem.W.Frag) (H H' : Hp) (pa pc : Addr) (n : Nat) (ps : List PyData) (i : Nat) : Prop where
  same : Same H H'
  la : ∃ acc, H' pa = some (.lst acc) ∧ DpAll K H' acc (parts n (ps.take i))
  lc : ∃ acc, H' pc = some (.lst acc) ∧ DpAll K H' acc (counts (ps.take i))
theorem parts_succ {n : Nat} {ps : List PyData} {i : Nat} {d : PyData} (e : ps[i]? = some d) : parts n (ps.take (i + 1)) = parts n (ps.take i) ++ allP d := by
  unfold parts
  rw [List.take_add_one, e, List.flatMap_append, ← List.append_assoc]
  simp
theorem counts_succ {ps : List PyData} {i : Nat} {d : PyData} (e : ps[i]? = some d) : counts (ps.take (i + 1)) = counts (ps.take i) ++ cntP d := by
  unfold counts
  rw [List.take_add_one, e, List.flatMap_append]
  simp
theorem Grow.stay {H H' : Hp} {pa pc : Addr} {n : Nat} {ps : List PyData} {i : Nat} {d : PyData} (g : Grow K H H' pa pc n ps i) (e : ps[i]? = some d) (h1 : allP d = []) (h2 : cntP d = []) : Grow K H H' pa pc n ps (i + 1) := by
  refine ⟨g.same, ?_, ?_⟩
  · rw [parts_succ e, h1, List.append_nil]
    exact g.la
  · rw [counts_succ e, h2, List.append_nil]
    exact g.lc
theorem Grow.keep {H H1 H2 : Hp} {pa pc : Addr} {n : Nat} {ps : List PyData} {i : Nat} (s : Same H1 H2) (g : Grow K H H1 pa pc n ps i) : Grow K H H2 pa pc n ps i := by
  obtain ⟨a, h1, h2⟩ := g.la
  obtain ⟨b, h3, h4⟩ := g.lc
  exact ⟨g.same.trans s, ⟨a, s.at h1, keepDs s _ _ h2⟩, ⟨b, s.at h3, keepDs s _ _ h4⟩⟩
theorem Grow.addA {H H1 : Hp} {pa pc : Addr} {n : Nat} {ps : List PyData} {i : Nat} {d : PyData} {acc : List V} {v : V} {x y : Nat} (g : Grow K H H1 pa pc n ps i) (e : ps[i]? = some d) (na : New H pa) (ne : pa ≠ pc) (hp : H1 pa = some (.lst acc)) (hv : Dp K H1 v (pr x y)) (h1 : allP d = [pr x y]) (h2 : cntP d = []) :
    Grow K H (upd H1 pa (.lst (acc ++ [v]))) pa pc n ps (i + 1) := by
  obtain ⟨a, h3, h4⟩ := g.la
  obtain ⟨b, h5, h6⟩ := g.lc
  rw [hp] at h3
  cases h3
  refine ⟨same_new g.same na, ⟨_, upd_same, ?_⟩, ⟨b, by rw [upd_ne ne.symm]; exact h5, ?_⟩⟩
  · rw [parts_succ e, h1]
    exact snoc_dp hp h4 hv (prs_parts _ _).noLs (noL_pr x y)
  · rw [counts_succ e, h2, List.append_nil]
    exact keepNs (ext_upd (Ext.refl pa H1) hp) hp _ _ (prs_counts _).noLs h6
theorem Grow.addC {H H1 : Hp} {pa pc : Addr} {n : Nat} {ps : List PyData} {i : Nat} {d : PyData} {acc : List V} {v : V} {x y : Nat} (g : Grow K H H1 pa pc n ps i) (e : ps[i]? = some d) (nc : New H pc) (ne : pa ≠ pc) (hp : H1 pc = some (.lst acc)) (hv : Dp K H1 v (pr x y)) (h1 : allP d = []) (h2 : cntP d = [pr x y]) :
    Grow K H (upd H1 pc (.lst (acc ++ [v]))) pa pc n ps (i + 1) := by
  obtain ⟨a, h3, h4⟩ := g.la
  obtain ⟨b, h5, h6⟩ := g.lc
  rw [hp] at h5
  cases h5
  refine ⟨same_new g.same nc, ⟨a, by rw [upd_ne ne]; exact h3, ?_⟩, ⟨_, upd_same, ?_⟩⟩
  · rw [parts_succ e, h1, List.append_nil]
    exact keepNs (ext_upd (Ext.refl pc H1) hp) hp _ _ (prs_parts _ _).noLs h4
  · rw [counts_succ e, h2]
    exact snoc_dp hp h6 hv (prs_counts _).noLs (noL_pr x y)
theorem Grow.len {H H1 : Hp} {pa pc : Addr} {n : Nat} {ps : List PyData} {i : Nat} (g : Grow K H H1 pa pc n ps i) (hn : n ≤ 4) (hl : ps.length ≤ 8) : (∀ acc, H1 pa = some (.lst acc) → acc.length ≤ 12) ∧ (∀ acc, H1 pc = some (.lst acc) → acc.length ≤ 8) := by
  obtain ⟨a, h3, h4⟩ := g.la
  obtain ⟨b, h5, h6⟩ := g.lc
  have l1 := len_flat len_all (ps.take i)
  have l2 := len_flat len_cnt (ps.take i)
  have l3 : (ps.take i).length ≤ 8 := by
    rw [List.length_take]
    omega
  have l4 := DpAll.length h4
  have l5 := DpAll.length h6
  unfold parts diag at l4
  unfold counts at l5
  rw [List.length_append, List.length_map, List.length_range] at l4
  refine ⟨fun acc e => ?_, fun acc e => ?_⟩
  · rw [h3] at e
    cases e
    omega
  · rw [h5] at e
    cases e
    omega
end
section
variable {P : Program} {w : World} {K : PySem.W.Frag} {mg : Str → Option Value} {base : Heap}
theorem snd_test {H : Hp} {a : Addr} {xs : List V} {w0 : Str} {r : List V} {b : Str} {R : Bool → Hp → Prop} {i : Nat} {σ : St} (e : σ[i]? = some (some (.ref a))) (h : SqT K H a xs) (hx : xs = .str w0 :: r) (k : R (decide (V.str w0 = V.str b)) H) : tTest (tOp rEq (tOp (rIxT K) (tVar i) (tC (.int 0))) (tC (.str b))) σ H R :=
  ⟨_, e, a, xs, 0, .str w0, rfl, rfl, h, atI_nat (j := 0) (by rw [hx]; rfl), rfl, _, rfl, k⟩
theorem ok_tables_of (T : Txt K mg) (TB__leads : GxR.TabB base mg T.cc__leads T.pp__leads) : FnOk P w K mg base CX0 4 T.f_tables_of T.d_tables_of ["many", "premises"] (spTables K T.pp__leads) := by
  have G__table := ok__table (P := P) (w := w) (base := base) T
  have G__more_subsets := ok__more_subsets (P := P) (w := w) (base := base) T TB__leads
  have G__more_at_least := ok__more_at_least (P := P) (w := w) (base := base) T TB__leads
  refine T.F_tables_of.ok sctables_of (fun vs H Q E h => ?_) (fun cdv A outer s H vs Q E hr h => ?_)
  · obtain ⟨x, n, m, ps, rfl, _⟩ := h
    rfl
  · obtain ⟨x, n, m, ps, rfl, hn, hx, hs, h8, tg, k⟩ := h
    refine ⟨_, (pss_cons (ps_setLc (i := 2) (own := [("x", 8)]) (g := gName 8) (tt := tYes) rfl sctables_of.nd rfl rfl (sw_true rfl rfl rfl (by decide +kernel)) (pi_range1 (by rfl) T.n_range (pa_cons (pv 0) pa_nil)) (blkOk_by (own := [("x", 8)]) (N := Ntables_of) (sc := defScope stables_of) (by decide +kernel)) (fun _ _ _ _ _ => pg_name (i := 8) sctables_of.nd rfl (Or.inl rfl)) (fun _ _ _ _ _ => pts_nil) (fun _ _ _ _ _ => (pe_tup (pa_cons (pv 8) (pa_cons (pv 8) pa_nil)))))
      (pss_cons (ps_set (i := 3) sctables_of.nd rfl (Or.inl rfl) (pe_lst pa_nil))
      (pss_cons (ps_for PassesOwn.never rfl (pi_tup (pv 1)) (pg_name (i := 4) sctables_of.nd rfl (Or.inl rfl)) (pss_cons (ps_if (pt_cmpR op_eq (pe_ix ix_tup (pv 4) pe_int (fun _ _ => rfl)) pe_str (nomark _)) (pss_one (ps_expr (pe_bm PySem.F.plainAttrs_list PySem.F.slot_list_append PySem.F.type_list_append mt_append (pv 2) (pa_cons (pe_slice sl_tupA (pv 4) (po_some pe_int) po_none) pa_nil)))) pss_nil)
      (pss_cons (ps_if (pt_cmpR op_eq (pe_ix ix_tup (pv 4) pe_int (fun _ _ => rfl)) pe_str (nomark _)) (pss_one (ps_expr (pe_bm PySem.F.plainAttrs_list PySem.F.slot_list_append PySem.F.type_list_append mt_append (pv 3) (pa_cons (pe_slice sl_tupA (pv 4) (po_some pe_int) po_none) pa_nil)))) pss_nil)
      (pss_one (ps_if (pt_cmpR op_eq (pe_ix ix_tup (pv 4) pe_int (fun _ _ => rfl)) pe_str (nomark _)) (pss_one (ps_expr (pe_bm PySem.F.plainAttrs_list PySem.F.slot_list_append PySem.F.type_list_append mt_append (pv 3) (pa_cons (pe_tup (pa_cons (pe_ix ix_tup (pv 4) pe_int (fun _ _ => rfl)) (pa_cons (pe_ix ix_tup (pv 4) pe_int (fun _ _ => rfl)) pa_nil))) pa_nil)))) pss_nil)))))
      (pss_cons (ps_par (i := 5) (j := 6) (by rfl) sctables_of.nd rfl rfl (by decide) rfl rfl (pa_cons (pe_call G__table (hr.mono (by decide)) (by rfl) T.g__table T.F__table.kp T.b__table .nil pass0 (pa_cons (pv 0) (pa_cons (pv 2) pa_nil))) (pa_cons (pe_call G__table (hr.mono (by decide)) (by rfl) T.g__table T.F__table.kp T.b__table .nil pass0 (pa_cons (pv 0) (pa_cons (pv 3) pa_nil))) pa_nil)) (by rfl))
      (pss_cons (ps_set (i := 7) sctables_of.nd rfl (Or.inl rfl) pe_non)
      (pss_cons (ps_while PassesOwn.never (pt_cmpR (op_neD hr.units) (pv 7) (pe_tup (pa_cons (pv 5) (pa_cons (pv 6) pa_nil))) (nomark _)) (pss_cons (ps_set (i := 7) sctables_of.nd rfl (Or.inl rfl) (pe_tup (pa_cons (pv 5) (pa_cons (pv 6) pa_nil))))
      (pss_cons (ps_set (i := 5) sctables_of.nd rfl (Or.inl rfl) (pe_call G__more_subsets (hr.mono (by decide)) (by rfl) T.g__more_subsets T.F__more_subsets.kp T.b__more_subsets .nil pass0 (pa_cons (pv 5) (pa_cons (pv 6) pa_nil))))
      (pss_one (ps_set (i := 6) sctables_of.nd rfl (Or.inl rfl) (pe_call G__more_at_least (hr.mono (by decide)) (by rfl) T.g__more_at_least T.F__more_at_least.kp T.b__more_at_least .nil pass0 (pa_cons (pv 5) (pa_cons (pv 6) pa_nil))))))))
      (pss_one (ps_ret (pe_tup (pa_cons (pv 5) (pa_cons (pv 6) pa_nil))))))))))), ?_⟩
    obtain ⟨ax, xs, rfl, hax, hxs⟩ := dp_tup hx
    have lxs := DpAll.length hxs
    refine ⟨_, rfl, n, rfl, by omega, by omega, fun pa npa => lc_range (lo := 0) (n := n) (fun i H' => Same H H' ∧ ∃ acc, H' pa = some (.lst acc) ∧ acc.length = i ∧ DpAll K H' acc ((List.range i).map fun x => pr x x)) ⟨same_upd npa, [], upd_same, rfl, .nil⟩ (fun i H' hi hP => ?_) fun H1 hP => ?_⟩
    · obtain ⟨s1, acc, hD, la, ha⟩ := hP
      rw [Int.zero_add]
      refine ⟨rfl, _, rfl, _, rfl, by show 2 ≤ sizeLine; decide, fun r nr => ⟨acc, (same_upd nr).at hD, by rw [la]; exact small1000 (by omega), same_fresh (s1.trans (same_upd nr)) npa, acc ++ [.ref r], upd_same, by rw [List.length_append, la]; rfl, ?_⟩⟩
      rw [List.range_succ, List.map_append]
      have hp : Prs ((List.range i).map fun x => pr x x) := prs_diag i
      exact snoc_dp ((same_upd nr).at hD) (keepDs (same_upd nr) _ _ ha) (.tup (.of upd_same) (.cons (.int _) (.cons (.int _) .nil))) hp.noLs (noL_pr i i)
    obtain ⟨s1, acc0, hD, la, ha⟩ := hP
    refine ⟨by show 0 ≤ sizeLine; decide, fun pc npc => ?_⟩
    have npac : pa ≠ pc := ne_of_none hD npc
    have na : New H pa := New.of (Same.refl H) npa
    have nc : New H pc := New.of s1 npc
    have g1 : Grow K H (upd H1 pc (.lst [])) pa pc n ps 0 := by
      refine ⟨same_new s1 nc, ⟨acc0, by rw [upd_ne npac]; exact hD, ?_⟩, ⟨[], upd_same, .nil⟩⟩
      have e : parts n (ps.take 0) = diag n := by
        unfold parts
        rw [List.take_zero, List.flatMap_nil, List.append_nil]
      rw [e]
      exact keepDs (same_upd npc) _ _ ha
    refine ⟨_, rfl, ax, rfl, ⟨_, (same_new s1 nc).sqT hax⟩, for_tup (K := K) (xs := xs) (fun i σ' H' => ∃ y4, σ' = [some (.int n), some (.ref ax), some (.ref pa), some (.ref pc), y4, none, none, none, none] ∧ Grow K H H' pa pc n ps i) ⟨none, rfl, g1⟩ (fun i σ' H' _ hP => ?_) (fun i x σ' H' hi hP => ?_) fun σ' H' hP => ?_⟩
    · obtain ⟨_, _, g⟩ := hP
      exact g.same.sqT hax
    · obtain ⟨y4, rfl, g⟩ := hP
      obtain ⟨d, ed, dd⟩ := DpAll.mem hxs hi
      obtain ⟨ds, rfl, sen⟩ := hs d (List.mem_of_getElem? ed)
      obtain ⟨b, ys, rfl, hb0, hys⟩ := dp_tup dd
      have hb := g.same.sqT hb0
      have dd' := keepD g.same _ _ dd
      have la := (g.len hn h8).1
      have lc := (g.len hn h8).2
      obtain ⟨acA, hpa, _⟩ := g.la
      obtain ⟨acC, hpc, _⟩ := g.lc
      cases sv_of hys sen with
      | noun w x y hx hy =>
        by_cases w1 : w = "all"
        · subst w1
          refine snd_test (K := K) rfl hb rfl ?_
          rw [decide_eq_true rfl]
          refine iteT ⟨_, rfl, .inl ⟨rfl, _, .of hpa⟩, de_from (K := K) (k := 1) (z := 1) rfl (de_var rfl dd') (by show 1 ≤ 3; decide) de_int H' (Same.refl H') _ fun v H2 s2 hv => ⟨pa, acA, v, rfl, rfl, s2.at hpa, small1000 (by have := la _ hpa; omega), ?_⟩⟩
          have g2 := (g.keep s2).addA ed na npac (s2.at hpa) hv (all_all x y) (cnt_not (by decide +kernel) (by decide +kernel) x y)
          refine snd_test (K := K) rfl (g2.same.sqT hb0) rfl ?_
          rw [strne (by decide +kernel)]
          refine iteF (snd_test (K := K) rfl (g2.same.sqT hb0) rfl ?_)
          rw [strne (by decide +kernel)]
          exact iteF ⟨_, rfl, g2⟩
        · refine snd_test (K := K) rfl hb rfl ?_
          rw [strne w1]
          refine iteF ?_
          by_cases w2 : w = "as many"
          · subst w2
            refine snd_test (K := K) rfl hb rfl ?_
            rw [decide_eq_true rfl]
            refine iteT ⟨_, rfl, .inl ⟨rfl, _, .of hpc⟩, de_from (K := K) (k := 1) (z := 1) rfl (de_var rfl dd') (by show 1 ≤ 3; decide) de_int H' (Same.refl H') _ fun v H2 s2 hv => ⟨pc, acC, v, rfl, rfl, s2.at hpc, small1000 (by have := lc _ hpc; omega), ?_⟩⟩
            have g2 := (g.keep s2).addC ed nc npac (s2.at hpc) hv (all_not w1 x y) (cnt_as x y)
            refine snd_test (K := K) rfl (g2.same.sqT hb0) rfl ?_
            rw [strne (by decide +kernel)]
            exact iteF ⟨_, rfl, g2⟩
          · refine snd_test (K := K) rfl hb rfl ?_
            rw [strne w2]
            refine iteF ?_
            by_cases w3 : w = "fewer"
            · subst w3
              refine snd_test (K := K) rfl hb rfl ?_
              rw [decide_eq_true rfl]
              refine iteT ⟨_, rfl, .inl ⟨rfl, _, .of hpc⟩, de_tup (K := K) (da_cons (de_ixT (j := 2) rfl (de_var rfl dd') rfl) (da_cons (de_ixT (j := 1) rfl (de_var rfl dd') rfl) da_nil)) (by show 2 ≤ 1000; decide) H' (Same.refl H') _ fun v H2 s2 hv => ⟨pc, acC, v, rfl, rfl, s2.at hpc, small1000 (by have := lc _ hpc; omega), ?_⟩⟩
              exact ⟨_, rfl, (g.keep s2).addC ed nc npac (s2.at hpc) hv (all_not w1 x y) (cnt_fewer x y)⟩
            · refine snd_test (K := K) rfl hb rfl ?_
              rw [strne w3]
              exact iteF ⟨_, rfl, g.stay ed (all_not w1 x y) (cnt_not w2 w3 x y)⟩
      | self q x b v =>
        refine snd_test (K := K) rfl hb rfl ?_
        rw [strne (by decide +kernel)]
        refine iteF (snd_test (K := K) rfl hb rfl ?_)
        rw [strne (by decide +kernel)]
        refine iteF (snd_test (K := K) rfl hb rfl ?_)
        rw [strne (by decide +kernel)]
        exact iteF ⟨_, rfl, g.stay ed rfl rfl⟩
      | verb q x b v c p y =>
        refine snd_test (K := K) rfl hb rfl ?_
        rw [strne (by decide +kernel)]
        refine iteF (snd_test (K := K) rfl hb rfl ?_)
        rw [strne (by decide +kernel)]
        refine iteF (snd_test (K := K) rfl hb rfl ?_)
        rw [strne (by decide +kernel)]
        exact iteF ⟨_, rfl, g.stay ed rfl rfl⟩
    · obtain ⟨y4, rfl, g⟩ := hP
      rw [lxs] at g
      obtain ⟨acA, hpa, hdA⟩ := g.la
      obtain ⟨acC, hpc, hdC⟩ := g.lc
      rw [List.take_length] at hdA hdC
      have sg := g.same
      clear g g1
      refine ⟨_, rfl, _, rfl, .ref pa, n, _, rfl, by omega, .lst (.of hpa) hdA, (prs_parts n ps).shaped, fun u1 H2 s2 h2 => ?_⟩
      refine ⟨_, rfl, _, rfl, .ref pc, n, _, rfl, by omega, .lst (.of (s2.at hpc)) (keepDs s2 _ _ hdC), (prs_counts ps).shaped, fun u2 H3 s3 h3 => ⟨_, _, rfl, ?_⟩⟩
      have h2' := keepD s3 _ _ h2
      have s03 : Same H H3 := (sg.trans s2).trans s3
      refine ⟨fun m' σ' H' => ∃ (v5 v6 v7 : V) (f g : Nat → Nat → Bool), σ' = [some (.int n), some (.ref ax), some (.ref pa), some (.ref pc), y4, some v5, some v6, some v7, none] ∧ Same H H' ∧ Dp K H' v5 (mat n f) ∧ Dp K H' v6 (mat n g) ∧ Refl n f ∧ Under n (f0 n ps) (g0 ps) f g ∧
        ((v7 = .non ∧ m' = lack n f + lack n g + 1) ∨ (∃ fp gp, Dp K H' v7 (.tuple [mat n fp, mat n gp]) ∧ Refl n fp ∧ Under n (f0 n ps) (g0 ps) fp gp ∧ f = stepA n fp gp ∧ g = stepB n (stepA n fp gp) gp ∧ m' = lack n fp + lack n gp)), ⟨_, u1, u2, .non, f0 n ps, g0 ps, rfl, s03, h2', h3, refl_f0 n ps, ⟨leq.refl _ _, leq.refl _ _, fun _ _ _ h1 h2 => ⟨h1, h2⟩⟩, .inl ⟨rfl, rfl⟩⟩, ?_⟩
      rintro m' _ H' ⟨v5, v6, v7, f, g, rfl, sH, hf, hg, rf, un, cs⟩
      refine ⟨_, rfl, _, rfl, _, rfl, by show 2 ≤ sizeLine; decide, fun t nt => ?_⟩
      have st := same_upd (o := .tup [v5, v6]) nt
      have ht : Dp K (upd H' t (.tup [v5, v6])) (.ref t) (.tuple [mat n f, mat n g]) := .tup (.of upd_same) (.cons (keepD st _ _ hf) (.cons (keepD st _ _ hg) .nil))
      generalize upd H' t (.tup [v5, v6]) = H4 at st ht
      obtain ⟨dB, hB, shB, hE⟩ : ∃ dB, Dp K H' v7 dB ∧ SeqAt.shaped dB = true ∧ ((PyData.eqv dB (.tuple [mat n f, mat n g]) = false ∧ lack n f + lack n g < m') ∨ (PyData.eqv dB (.tuple [mat n f, mat n g]) = true ∧ Least n (f0 n ps) (g0 ps) f g)) := by
        rcases cs with ⟨rfl, rfl⟩ | ⟨fp, gp, hp, rp, up, ef, eg, rfl⟩
        · exact ⟨.none, .non, shN, .inl ⟨by simp [PyData.eqv], by omega⟩⟩
        · refine ⟨_, hp, sh_two, ?_⟩
          cases q : PyData.eqv (.tuple [mat n fp, mat n gp]) (.tuple [mat n f, mat n g]) with
          | true =>
            obtain ⟨p1, p2⟩ := eqv_two.mp q
            have c : Closed n fp gp := closed_fix (fun x y hx hy => by rw [p1 x y hx hy, ef]) (fun x y hx hy => by rw [p2 x y hx hy, eg])
            refine .inr ⟨rfl, un, ?_⟩
            refine ⟨fun x y z hx hy hz a b => ?_, fun x y hx hy a b => ?_, fun x y hx hy a => ?_, fun x y z hx hy hz a b => ?_⟩
            · rw [← p1 x z hx hz]
              rw [← p1 x y hx hy] at a
              rw [← p1 y z hy hz] at b
              exact c.tr x y z hx hy hz a b
            · rw [← p1 x y hx hy]
              rw [← p1 y x hy hx] at a
              rw [← p2 y x hy hx] at b
              exact c.an x y hx hy a b
            · rw [← p2 x y hx hy]
              rw [← p1 y x hy hx] at a
              exact c.up x y hx hy a
            · rw [← p2 x z hx hz]
              rw [← p2 x y hx hy] at a
              rw [← p2 y z hy hz] at b
              exact c.tg x y z hx hy hz a b
          | false =>
            refine .inl ⟨rfl, ?_⟩
            have l1 : leq n fp f := by
              rw [ef]
              exact leq_stepA rp
            have l2 : leq n gp g := by
              rw [eg]
              exact leq_stepB
            by_cases d1 : ∃ x y, x < n ∧ y < n ∧ fp x y ≠ f x y
            · have := lack_lt l1 d1
              have := lack_le l2
              omega
            · by_cases d2 : ∃ x y, x < n ∧ y < n ∧ gp x y ≠ g x y
              · have := lack_lt l2 d2
                have := lack_le l1
                omega
              · exfalso
                have : PyData.eqv (.tuple [mat n fp, mat n gp]) (.tuple [mat n f, mat n g]) = true := eqv_two.mpr ⟨fun x y hx hy => Classical.byContradiction fun z => d1 ⟨x, y, hx, hy, z⟩, fun x y hx hy => Classical.byContradiction fun z => d2 ⟨x, y, hx, hy, z⟩⟩
                rw [q] at this
                cases this
      refine ⟨dB, _, keepD st _ _ hB, ht, shB, sh_two, _, rfl, ?_⟩
      have sH4 := sH.trans st
      have hf4 := keepD st _ _ hf
      have hg4 := keepD st _ _ hg
      rcases hE with ⟨e, lt⟩ | ⟨e, least⟩
      · rw [e]
        refine iteT ⟨_, fun _ _ h => h, ?_⟩
        refine ⟨_, rfl, _, rfl, by show 2 ≤ sizeLine; decide, fun t2 nt2 => ?_⟩
        have st2 := same_upd (o := .tup [v5, v6]) nt2
        have ht2 : Dp K (upd H4 t2 (.tup [v5, v6])) (.ref t2) (.tuple [mat n f, mat n g]) := .tup (.of upd_same) (.cons (keepD st2 _ _ hf4) (.cons (keepD st2 _ _ hg4) .nil))
        generalize upd H4 t2 (.tup [v5, v6]) = H5 at st2 ht2
        have tg5 := (sH4.trans st2).2 _ tg
        refine ⟨_, rfl, _, rfl, v5, v6, n, f, g, rfl, by omega, keepD st2 _ _ hf4, keepD st2 _ _ hg4, tg5, fun r1 H6 s6 hr1 => ?_⟩
        refine ⟨_, rfl, _, rfl, r1, v6, n, stepA n f g, g, rfl, by omega, hr1, keepD (st2.trans s6) _ _ hg4, s6.2 _ tg5, fun r2 H7 s7 hr2 => ?_⟩
        exact ⟨_, lt, r1, r2, .ref t2, stepA n f g, stepB n (stepA n f g) g, rfl, ((sH4.trans st2).trans s6).trans s7, keepD s7 _ _ hr1, hr2, fun x hx => leq_stepA rf x x hx hx (rf x hx), un.step rf, .inr ⟨f, g, keepD (s6.trans s7) _ _ ht2, rf, un, rfl, rfl, rfl⟩⟩
      · rw [e]
        refine iteF ⟨_, rfl, _, rfl, by show 2 ≤ sizeLine; decide, fun r nr => ?_⟩
        exact k _ _ f g (sH4.trans (same_upd nr)) (.tup (.of upd_same) (.cons (keepD (same_upd nr) _ _ hf4) (.cons (keepD (same_upd nr) _ _ hg4) .nil))) least
end
theorem sens_prem {n m : Int} {ps : List PyData} (h : Sens n m ps) (l : ps.length ≤ 8) : isPrem n m (.tuple ps) = true := by
  show (decide (ps.length ≤ 8) && ps.all (isSent n m)) = true
  rw [decide_eq_true l, Bool.true_and, List.all_eq_true]
  intro d hd
  obtain ⟨q, rfl, hq⟩ := h d hd
  exact hq.ok
section
variable {P : Program} {w : World} {K : PySem.W.Frag} {mg : Str → Option Value} {base : Heap}
def spSubs (K : PySem.W.Frag) (PA PL : Addr) (pick : (Nat → Nat → Bool) → (Nat → Nat → Bool) → Nat → Nat → Bool) : Sp := fun vs H Q _ => ∃ (v x : V) (n : Nat) (m : Int) (ps : List PyData), vs = [v, x] ∧ Sig K H v n m ∧ (1 ≤ n ∧ n ≤ 4 ∧ 0 ≤ m ∧ m ≤ 2) ∧ Dp K H x (.tuple ps) ∧ Sens n m ps ∧ ps.length ≤ 8 ∧ GxR.TabG H PA ∧ GxR.TabG H PL ∧
  ∀ r H' f g, Same H H' → Least n (f0 n ps) (g0 ps) f g → Dp K H' r (.tuple (prsD n (apart (pick f g)))) → Q r H'
theorem ok_subsets (T : Txt K mg) (TB_are_premises : GxR.TabB base mg T.cc_are_premises T.pp_are_premises) (TB__leads : GxR.TabB base mg T.cc__leads T.pp__leads) : FnOk P w K mg base CX0 8 T.f_subsets T.d_subsets ["signature", "premises"] (spSubs K T.pp_are_premises T.pp__leads fun f _ => f) := by
  have G_check_signature := ok_check_signature (P := P) (w := w) (base := base) T
  have G_check_premises := ok_check_premises (P := P) (w := w) (base := base) T TB_are_premises
  have G_tables_of := ok_tables_of (P := P) (w := w) (base := base) T TB__leads
  have G__different_pairs := ok__different_pairs (P := P) (w := w) (base := base) T
  refine T.F_subsets.ok scsubsets (fun vs H Q E h => ?_) (fun cdv A outer s H vs Q E hr h => ?_)
  · obtain ⟨v, x, n, m, ps, rfl, _⟩ := h
    rfl
  · obtain ⟨v, x, n, m, ps, rfl, hsig, ⟨n1, n4, m0, m2⟩, hx, hs, h8, tA, tL, k⟩ := h
    refine ⟨_, (pss_cons (ps_expr (pe_call G_check_signature (hr.mono (by decide)) (by rfl) T.g_check_signature T.F_check_signature.kp T.b_check_signature .nil pass0 (pa_cons (pv 0) pa_nil)))
      (pss_cons (ps_expr (pe_call G_check_premises (hr.mono (by decide)) (by rfl) T.g_check_premises T.F_check_premises.kp T.b_check_premises .nil pass0 (pa_cons (pv 0) (pa_cons (pv 1) (pa_cons pe_str pa_nil)))))
      (pss_cons (ps_asg (pe_call G_tables_of (hr.mono (by decide)) (by rfl) T.g_tables_of T.F_tables_of.kp T.b_tables_of .nil pass0 (pa_cons (pe_ix ix_tup (pv 0) pe_int (fun _ _ => rfl)) (pa_cons (pv 1) pa_nil))) (pg_tup rfl (pgs_cons (pg_name (i := 2) scsubsets.nd rfl (Or.inl rfl)) (pgs_cons (pg_name (i := 3) scsubsets.nd rfl (Or.inl rfl)) pgs_nil))))
      (pss_one (ps_ret (pe_call G__different_pairs (hr.mono (by decide)) (by rfl) T.g__different_pairs T.F__different_pairs.kp T.b__different_pairs .nil pass0 (pa_cons (pv 2) pa_nil))))))), ?_⟩
    refine ⟨_, rfl, v, _, rfl, hsig.dp, isSig_of (by omega) (by omega) m0 m2, ?_⟩
    refine ⟨_, rfl, _, rfl, v, x, _, _, n, m, rfl, hsig, hx, hs.shss, sens_prem hs h8, tA, fun H2 s2 => ?_⟩
    obtain ⟨a, rfl, ha⟩ := hsig.keep s2
    refine ⟨_, rfl, a, _, _, _, rfl, rfl, ha, atI_nat (j := 0) rfl, _, rfl, x, n, m, ps, rfl, n4, keepD s2 _ _ hx, hs, h8, s2.2 _ tL, fun r H3 f g s3 hr least => ?_⟩
    obtain ⟨ar, ys, rfl, har, hys⟩ := dp_tup hr
    obtain ⟨v1, v2, rfl, h1, h2⟩ := da2 hys
    refine ⟨ar, _, rfl, har, rfl, _, _, rfl, _, _, rfl, rfl, ?_⟩
    exact ⟨_, rfl, v1, n, f, rfl, by omega, h1, fun r H' s4 hr => k _ _ f g ((s2.trans s3).trans s4) least hr⟩
theorem ok_at_least (T : Txt K mg) (TB_are_premises : GxR.TabB base mg T.cc_are_premises T.pp_are_premises) (TB__leads : GxR.TabB base mg T.cc__leads T.pp__leads) : FnOk P w K mg base CX0 8 T.f_at_least T.d_at_least ["signature", "premises"] (spSubs K T.pp_are_premises T.pp__leads fun _ g => g) := by
  have G_check_signature := ok_check_signature (P := P) (w := w) (base := base) T
  have G_check_premises := ok_check_premises (P := P) (w := w) (base := base) T TB_are_premises
  have G_tables_of := ok_tables_of (P := P) (w := w) (base := base) T TB__leads
  have G__different_pairs := ok__different_pairs (P := P) (w := w) (base := base) T
  refine T.F_at_least.ok scat_least (fun vs H Q E h => ?_) (fun cdv A outer s H vs Q E hr h => ?_)
  · obtain ⟨v, x, n, m, ps, rfl, _⟩ := h
    rfl
  · obtain ⟨v, x, n, m, ps, rfl, hsig, ⟨n1, n4, m0, m2⟩, hx, hs, h8, tA, tL, k⟩ := h
    refine ⟨_, (pss_cons (ps_expr (pe_call G_check_signature (hr.mono (by decide)) (by rfl) T.g_check_signature T.F_check_signature.kp T.b_check_signature .nil pass0 (pa_cons (pv 0) pa_nil)))
      (pss_cons (ps_expr (pe_call G_check_premises (hr.mono (by decide)) (by rfl) T.g_check_premises T.F_check_premises.kp T.b_check_premises .nil pass0 (pa_cons (pv 0) (pa_cons (pv 1) (pa_cons pe_str pa_nil)))))
      (pss_cons (ps_asg (pe_call G_tables_of (hr.mono (by decide)) (by rfl) T.g_tables_of T.F_tables_of.kp T.b_tables_of .nil pass0 (pa_cons (pe_ix ix_tup (pv 0) pe_int (fun _ _ => rfl)) (pa_cons (pv 1) pa_nil))) (pg_tup rfl (pgs_cons (pg_name (i := 2) scat_least.nd rfl (Or.inl rfl)) (pgs_cons (pg_name (i := 3) scat_least.nd rfl (Or.inl rfl)) pgs_nil))))
      (pss_one (ps_ret (pe_call G__different_pairs (hr.mono (by decide)) (by rfl) T.g__different_pairs T.F__different_pairs.kp T.b__different_pairs .nil pass0 (pa_cons (pv 3) pa_nil))))))), ?_⟩
    refine ⟨_, rfl, v, _, rfl, hsig.dp, isSig_of (by omega) (by omega) m0 m2, ?_⟩
    refine ⟨_, rfl, _, rfl, v, x, _, _, n, m, rfl, hsig, hx, hs.shss, sens_prem hs h8, tA, fun H2 s2 => ?_⟩
    obtain ⟨a, rfl, ha⟩ := hsig.keep s2
    refine ⟨_, rfl, a, _, _, _, rfl, rfl, ha, atI_nat (j := 0) rfl, _, rfl, x, n, m, ps, rfl, n4, keepD s2 _ _ hx, hs, h8, s2.2 _ tL, fun r H3 f g s3 hr least => ?_⟩
    obtain ⟨ar, ys, rfl, har, hys⟩ := dp_tup hr
    obtain ⟨v1, v2, rfl, h1, h2⟩ := da2 hys
    refine ⟨ar, _, rfl, har, rfl, _, _, rfl, _, _, rfl, rfl, ?_⟩
    exact ⟨_, rfl, v2, n, g, rfl, by omega, h2, fun r H' s4 hr => k _ _ f g ((s2.trans s3).trans s4) least hr⟩
end
section
variable {P : Program} {w : World} {K : PySem.W.Frag} {mg : Str → Option Value} {base : Heap}
theorem quant_at {H : Hp} {v : V} {d : Int} (h : Dp K H v (.list quants)) (h0 : 0 ≤ d) (h1 : d < 2) : ∃ b xs q, v = .ref b ∧ SqL K H b xs ∧ atI xs d = some (.str q) ∧ QOK q := by
  obtain ⟨b, xs, rfl, hb, hx⟩ := dp_lst h
  obtain ⟨j, rfl⟩ := Int.eq_ofNat_of_zero_le h0
  have hj : j < quants.length := by show j < 2; omega
  obtain ⟨y, ey, dy⟩ := DpAll.get hx (List.getElem?_eq_getElem hj)
  obtain ⟨q, e, hq⟩ := quants_ok _ (List.getElem_mem hj)
  rw [e] at dy
  have := dp_str dy
  subst this
  exact ⟨b, xs, q, rfl, hb, atI_nat ey, hq⟩
theorem safe_quants : safe (.list quants) = true := by simp [safe, quants, okL]
def spSen5 (K : PySem.W.Frag) : Sp := fun vs H Q _ => ∃ (p l : Addr) (n m : Int), vs = [.ref p, .int n, .int m] ∧ Strm l H p ∧ (1 ≤ n ∧ n ≤ 4 ∧ 0 ≤ m ∧ m ≤ 2) ∧ ∀ H' x ds, Ext p H H' → Strm l H' p → Dp K H' x (.tuple ds) → Sen n m ds → Q x H'
theorem ok__law_sentence (T : Txt K mg) : FnOk P w K mg base CX0 2 T.f__law_sentence T.d__law_sentence ["stream", "nouns", "verbs"] (spSen5 K) := by
  have G__law_next := ok__law_next (P := P) (w := w) (base := base) T
  refine T.F__law_sentence.ok sc_law_sentence (fun vs H Q E h => ?_) (fun cdv A outer s H vs Q E hr h => ?_)
  · obtain ⟨p, l, n, m, rfl, _⟩ := h
    rfl
  · obtain ⟨p, l, n, m, rfl, st, ⟨n0, n1, m0, m1⟩, k⟩ := h
    refine ⟨_, (pss_cons (ps_set (i := 3) sc_law_sentence.nd rfl (Or.inl rfl) (pe_call G__law_next (hr.mono (by decide)) (by rfl) T.g__law_next T.F__law_next.kp T.b__law_next .nil pass0 (pa_cons (pv 0) (pa_cons (pv 1) pa_nil))))
      (pss_cons (ps_set (i := 4) sc_law_sentence.nd rfl (Or.inl rfl) (pe_call G__law_next (hr.mono (by decide)) (by rfl) T.g__law_next T.F__law_next.kp T.b__law_next .nil pass0 (pa_cons (pv 0) (pa_cons (pv 1) pa_nil))))
      (pss_cons (ps_set (i := 5) sc_law_sentence.nd rfl (Or.inl rfl) (pe_call G__law_next (hr.mono (by decide)) (by rfl) T.g__law_next T.F__law_next.kp T.b__law_next .nil pass0 (pa_cons (pv 0) (pa_cons pe_int pa_nil))))
      (pss_cons (ps_if (PW.pt (pw_or (pt_cmpR op_lt (pv 5) pe_int (nomark _)) (pw_or1 (pt_cmpR op_eq (pv 2) pe_int (nomark _))))) (pss_one (ps_ret (pe_tup (pa_cons (pe_ix ix_list (pe_lst (pa_cons pe_str (pa_cons pe_str (pa_cons pe_str (pa_cons pe_str (pa_cons pe_str (pa_cons pe_str pa_nil))))))) (pe_op op_mod (pe_callTy call_int1 (by rfl) T.n_int (by decide +kernel) (pa_cons (pv 5) pa_nil)) pe_int) (fun _ _ => rfl)) (pa_cons (pv 3) (pa_cons (pv 4) pa_nil)))))) pss_nil)
      (pss_cons (ps_set (i := 6) sc_law_sentence.nd rfl (Or.inl rfl) (pe_lst (pa_cons pe_str (pa_cons pe_str pa_nil))))
      (pss_cons (ps_set (i := 7) sc_law_sentence.nd rfl (Or.inl rfl) (pe_ix ix_list (pv 6) (pe_call G__law_next (hr.mono (by decide)) (by rfl) T.g__law_next T.F__law_next.kp T.b__law_next .nil pass0 (pa_cons (pv 0) (pa_cons pe_int pa_nil))) (fun _ _ => rfl)))
      (pss_cons (ps_set (i := 8) sc_law_sentence.nd rfl (Or.inl rfl) (pe_cmpR op_eq (pe_call G__law_next (hr.mono (by decide)) (by rfl) T.g__law_next T.F__law_next.kp T.b__law_next .nil pass0 (pa_cons (pv 0) (pa_cons pe_int pa_nil))) pe_int (nomark _)))
      (pss_cons (ps_set (i := 9) sc_law_sentence.nd rfl (Or.inl rfl) (pe_call G__law_next (hr.mono (by decide)) (by rfl) T.g__law_next T.F__law_next.kp T.b__law_next .nil pass0 (pa_cons (pv 0) (pa_cons (pv 2) pa_nil))))
      (pss_cons (ps_if (pt_cmpR op_eq (pv 5) pe_int (nomark _)) (pss_one (ps_ret (pe_tup (pa_cons pe_str (pa_cons (pv 7) (pa_cons (pv 3) (pa_cons (pv 8) (pa_cons (pv 9) pa_nil)))))))) pss_nil)
      (pss_one (ps_ret (pe_tup (pa_cons pe_str (pa_cons (pv 7) (pa_cons (pv 3) (pa_cons (pv 8) (pa_cons (pv 9) (pa_cons (pe_cmpR op_eq (pe_call G__law_next (hr.mono (by decide)) (by rfl) T.g__law_next T.F__law_next.kp T.b__law_next .nil pass0 (pa_cons (pv 0) (pa_cons pe_int pa_nil))) pe_int (nomark _)) (pa_cons (pe_ix ix_list (pv 6) (pe_call G__law_next (hr.mono (by decide)) (by rfl) T.g__law_next T.F__law_next.kp T.b__law_next .nil pass0 (pa_cons (pv 0) (pa_cons pe_int pa_nil))) (fun _ _ => rfl)) (pa_cons (pv 4) pa_nil)))))))))))))))))))), ?_⟩
    refine ⟨_, rfl, _, rfl, p, l, n, rfl, st, by omega, by omega, fun H1 x e1 st1 x0 x1 => ?_⟩
    refine ⟨_, rfl, _, rfl, p, l, n, rfl, st1, by omega, by omega, fun H2 y e2 st2 y0 y1 => ?_⟩
    refine ⟨_, rfl, p, l, 9, rfl, st2, by decide, by decide, fun H3 c e3 st3 c0 c1 => ?_⟩
    have e03 := (e1.trans e2).trans e3
    have fin : ∀ (w1 : Str) (H5 : Hp), WOK w1 → Ext p H H5 → Strm l H5 p → ∀ q, H5 q = none → Q (.ref q) (upd H5 q (.tup [.str w1, .int x, .int y])) := by
      intro w1 H5 hw e5 st5 q nq
      exact k _ _ _ (e5.trans (same_upd nq).ext) (st5.keep (same_upd nq)) (.tup (.of upd_same) (.cons (.str _) (.cons (.int _) (.cons (.int _) .nil)))) (.noun w1 x y hw x0 x1 y0 y1)
    have six : ∀ (H5 : Hp) (v : V), Dp K H5 v (.list words) → ∃ b xs w1, v = .ref b ∧ SqL K H5 b xs ∧ atI xs (c % 6) = some (.str w1) ∧ WOK w1 := by
      intro H5 v h
      obtain ⟨b, xs, rfl, hb, hx⟩ := dp_lst h
      obtain ⟨j, hj⟩ := Int.eq_ofNat_of_zero_le (Int.emod_nonneg c (by decide : (6 : Int) ≠ 0))
      have hj2 : j < words.length := by show j < 6; have := Int.emod_lt_of_pos c (by decide : (0 : Int) < 6); omega
      obtain ⟨z, ez, dz⟩ := DpAll.get hx (List.getElem?_eq_getElem hj2)
      obtain ⟨q, e, hq⟩ := words_ok _ (List.getElem_mem hj2)
      rw [e] at dz
      have := dp_str dz
      subst this
      exact ⟨b, xs, q, rfl, hb, by rw [hj]; exact atI_nat ez, hq⟩
    refine ⟨_, rfl, _, _, rfl, rfl, _, rfl, ?_⟩
    by_cases q1 : c < 6
    · rw [decide_eq_true q1]
      refine iteT (iteT ?_)
      dsimp only [tRet]
      refine tup_at (cons_at (op_at (de_lst (K := K) (da_cons de_str (da_cons de_str (da_cons de_str (da_cons de_str (da_cons de_str (da_cons de_str da_nil)))))) (by show 6 ≤ 1000; decide) H3 (Same.refl H3) _ fun v5 H5 s5 h5 => ?_)))
      obtain ⟨b, xs, w1, rfl, hb, ha, hw⟩ := six H5 v5 h5
      exact ⟨_, rfl, .inl ⟨_, rfl, _, _, rfl, rfl, by show (0 : Int) < 6; decide, b, xs, _, _, rfl, rfl, hb, ha, _, rfl, _, rfl, by show 3 ≤ sizeLine; decide, fin w1 H5 hw (e03.trans s5.ext) (st3.keep s5)⟩⟩
    · rw [decide_eq_false q1]
      refine iteF ⟨_, rfl, rfl, _, rfl, ?_⟩
      by_cases q2 : m = 0
      · rw [decide_eq_true (show V.int m = V.int 0 by rw [q2])]
        refine iteT ?_
        dsimp only [tRet]
        refine tup_at (cons_at (op_at (de_lst (K := K) (da_cons de_str (da_cons de_str (da_cons de_str (da_cons de_str (da_cons de_str (da_cons de_str da_nil)))))) (by show 6 ≤ 1000; decide) H3 (Same.refl H3) _ fun v5 H5 s5 h5 => ?_)))
        obtain ⟨b, xs, w1, rfl, hb, ha, hw⟩ := six H5 v5 h5
        exact ⟨_, rfl, .inl ⟨_, rfl, _, _, rfl, rfl, by show (0 : Int) < 6; decide, b, xs, _, _, rfl, rfl, hb, ha, _, rfl, _, rfl, by show 3 ≤ sizeLine; decide, fin w1 H5 hw (e03.trans s5.ext) (st3.keep s5)⟩⟩
      · rw [decide_eq_false (show ¬ V.int m = V.int 0 from fun z => q2 (V.int.inj z))]
        refine iteF ?_
        have m1' : 0 < m := by omega
        dsimp only [tNext, tSeq, tAsg]
        refine de_lst (K := K) (da_cons de_str (da_cons de_str da_nil)) (by show 2 ≤ 1000; decide) H3 (Same.refl H3) _ fun v6 H6 s6 h6 => ?_
        refine ⟨_, rfl, _, rfl, p, l, 2, rfl, st3.keep s6, by decide, by decide, fun H7 d7 e7 st7 d70 d71 => ?_⟩
        have h7 := keepX e7 (st3.keep s6) (.list quants) _ safe_quants h6
        obtain ⟨b, xs, q7, rfl, hb, ha, hq7⟩ := quant_at h7 d70 d71
        refine ⟨b, xs, _, _, rfl, rfl, hb, ha, ?_⟩
        refine ⟨_, rfl, p, l, 2, rfl, st7, by decide, by decide, fun H8 d8 e8 st8 _ _ => ⟨rfl, ?_⟩⟩
        refine ⟨_, rfl, _, rfl, p, l, m, rfl, st8, by omega, by omega, fun H9 v e9 st9 v0 v1 => ?_⟩
        have e09 := ((((e03.trans s6.ext).trans e7).trans e8).trans e9)
        refine ⟨_, rfl, rfl, _, rfl, ite2 (fun _ => ?_) (fun _ => ?_)⟩
        · refine ⟨_, rfl, _, rfl, _, rfl, _, rfl, by show 5 ≤ sizeLine; decide, fun r nr => ?_⟩
          exact k _ _ _ (e09.trans (same_upd nr).ext) (st9.keep (same_upd nr)) (.tup (.of upd_same) (.cons (.str _) (.cons (.str _) (.cons (.int _) (.cons (.bl _) (.cons (.int _) .nil)))))) (.self q7 x _ v hq7 x0 x1 v0 v1)
        · refine ⟨_, rfl, _, rfl, _, rfl, _, rfl, _, rfl, p, l, 2, rfl, st9, by decide, by decide, fun HA dA eA stA _ _ => ⟨rfl, ?_⟩⟩
          refine ⟨_, rfl, _, rfl, p, l, 2, rfl, stA, by decide, by decide, fun HB dB eB stB dB0 dB1 => ?_⟩
          have hB := keepX eB stA (.list quants) _ safe_quants (keepX eA st9 (.list quants) _ safe_quants (keepX e9 st8 (.list quants) _ safe_quants (keepX e8 st7 (.list quants) _ safe_quants h7)))
          obtain ⟨b2, ys, pB, eb, hb2, hpa, hpB⟩ := quant_at hB dB0 dB1
          refine ⟨b2, ys, _, _, eb, rfl, hb2, hpa, _, rfl, by show 8 ≤ sizeLine; decide, fun r nr => ?_⟩
          exact k _ _ _ ((e09.trans (eA.trans eB)).trans (same_upd nr).ext) (stB.keep (same_upd nr)) (.tup (.of upd_same) (.cons (.str _) (.cons (.str _) (.cons (.int _) (.cons (.bl _) (.cons (.int _) (.cons (.bl _) (.cons (.str _) (.cons (.int _) .nil))))))))) (.verb q7 x _ v _ pB y hq7 hpB x0 x1 v0 v1 y0 y1)
def spSig5 (K : PySem.W.Frag) : Sp := fun vs H Q _ => ∃ (p l : Addr) (k : Int), vs = [.ref p, .int k] ∧ Strm l H p ∧ 0 < k ∧ k ≤ 4 ∧ ∀ H' v (n : Nat) m, Ext p H H' → Strm l H' p → Sig K H' v n m → 1 ≤ n → n ≤ 4 → 0 ≤ m → m ≤ 2 → Q v H'
theorem ok__law_signature (T : Txt K mg) : FnOk P w K mg base CX0 2 T.f__law_signature T.d__law_signature ["stream", "most"] (spSig5 K) := by
  have G__law_next := ok__law_next (P := P) (w := w) (base := base) T
  refine T.F__law_signature.ok sc_law_signature (fun vs H Q E h => ?_) (fun cdv A outer s H vs Q E hr h => ?_)
  · obtain ⟨p, l, k, rfl, _⟩ := h
    rfl
  · obtain ⟨p, l, kk, rfl, st, k0, k4, k⟩ := h
    refine ⟨_, (pss_one (ps_ret (pe_tup (pa_cons (pe_op op_add pe_int (pe_call G__law_next (hr.mono (by decide)) (by rfl) T.g__law_next T.F__law_next.kp T.b__law_next .nil pass0 (pa_cons (pv 0) (pa_cons (pv 1) pa_nil)))) (pa_cons (pe_call G__law_next (hr.mono (by decide)) (by rfl) T.g__law_next T.F__law_next.kp T.b__law_next .nil pass0 (pa_cons (pv 0) (pa_cons pe_int pa_nil))) pa_nil))))), ?_⟩
    refine ⟨_, rfl, _, rfl, p, l, kk, rfl, st, by omega, by omega, fun H1 x e1 st1 x0 x1 => ⟨_, _, rfl, rfl, ?_⟩⟩
    refine ⟨_, rfl, p, l, 3, rfl, st1, by decide, by decide, fun H2 y e2 st2 y0 y1 => ⟨by show 2 ≤ sizeLine; decide, fun q nq => ?_⟩⟩
    obtain ⟨j, rfl⟩ := Int.eq_ofNat_of_zero_le x0
    refine k _ _ (1 + j) y ((e1.trans e2).trans (same_upd nq).ext) (st2.keep (same_upd nq)) ⟨q, rfl, ?_⟩ (by omega) (by omega) y0 (by omega)
    rw [show (((1 + j : Nat)) : Int) = 1 + (j : Int) by omega]
    exact .of upd_same
def spPrems5 (K : PySem.W.Frag) : Sp := fun vs H Q _ => ∃ (p l : Addr) (v : V) (n m k : Int), vs = [.ref p, v, .int k] ∧ Strm l H p ∧ Sig K H v n m ∧ (1 ≤ n ∧ n ≤ 4 ∧ 0 ≤ m ∧ m ≤ 2) ∧ 0 ≤ k ∧ k ≤ 8 ∧ ∀ H' x ps, Ext p H H' → Strm l H' p → Dp K H' x (.tuple ps) → Sens n m ps → ps.length ≤ 8 → Q x H'
theorem ok__law_premises (T : Txt K mg) : FnOk P w K mg base CX0 3 T.f__law_premises T.d__law_premises ["stream", "signature", "most"] (spPrems5 K) := by
  have G__law_next := ok__law_next (P := P) (w := w) (base := base) T
  have G__law_sentence := ok__law_sentence (P := P) (w := w) (base := base) T
  refine T.F__law_premises.ok sc_law_premises (fun vs H Q E h => ?_) (fun cdv A outer s H vs Q E hr h => ?_)
  · obtain ⟨p, l, v, n, m, k, rfl, _⟩ := h
    rfl
  · obtain ⟨p, l, sv, n, m, kk, rfl, st3, hsig3, ⟨n0, n1, m0, m1⟩, k0, k8, k⟩ := h
    refine ⟨_, (pss_one (ps_ret (pe_callTy call_tuple_of (by rfl) T.n_tuple (by decide +kernel) (pa_cons (pe_lc (own := [("k", 3)]) (g := gName 3) (tt := tYes) rfl sc_law_premises.nd (pi_range1 (by rfl) T.n_range (pa_cons (pe_call G__law_next (hr.mono (by decide)) (by rfl) T.g__law_next T.F__law_next.kp T.b__law_next .nil pass0 (pa_cons (pv 0) (pa_cons (pe_op op_add (pv 2) pe_int) pa_nil))) pa_nil)) (blkOk_by (own := [("k", 3)]) (N := N_law_premises) (sc := defScope s_law_premises) (by decide +kernel)) (fun _ _ _ _ _ => pg_name (i := 3) sc_law_premises.nd rfl (Or.inl rfl)) (fun _ _ _ _ _ => pts_nil) (fun _ _ _ _ _ => (pe_call G__law_sentence (hr.mono (by decide)) (by rfl) T.g__law_sentence T.F__law_sentence.kp T.b__law_sentence .nil pass0 (pa_cons (pv 0) (pa_cons (pe_ix (kq_ixT K rfl) (pv 1) pe_int (fun _ _ => rfl)) (pa_cons (pe_ix (kq_ixT K rfl) (pv 1) pe_int (fun _ _ => rfl)) pa_nil)))))) pa_nil)))), ?_⟩
    refine ⟨_, rfl, _, rfl, _, _, rfl, rfl, p, l, _, rfl, st3, by omega, by omega, fun H4 c e4 st4 c0 c1 => ⟨_, rfl, by omega, by omega, fun D nD => lc_range (lo := 0) (n := c.toNat) (fun i H' => Ext p H4 H' ∧ Strm l H' p ∧ ∃ acc dss, H' D = some (.lst acc) ∧ acc.length = i ∧ DpAll K H' acc dss ∧ Sens n m dss) ?_ (fun i H' hi hP => ?_) fun H5 hP => ?_⟩⟩
    · exact ⟨ext_fresh (Ext.refl p H4) nD, st4.upd (st4.ne nD).1 (st4.ne nD).2, [], [], upd_same, rfl, .nil, fun d hd => nomatch hd⟩
    · obtain ⟨e', st', acc, dss, hD, la, ha, hs⟩ := hP
      obtain ⟨a, rfl, hsq⟩ := e'.sig st4 (e4.sig st3 hsig3)
      refine ⟨rfl, _, rfl, _, rfl, a, _, _, _, rfl, rfl, hsq, atI_nat (j := 0) rfl, _, rfl, a, _, _, _, rfl, rfl, hsq, atI_nat (j := 1) rfl, p, l, n, m, rfl, st', ⟨n0, n1, m0, m1⟩, fun H5 y dy e5 st5 hy sy => ?_⟩
      have hD5 := e5.at (fun z => (st4.ne nD).1 z.symm) hD
      refine ⟨acc, hD5, by rw [la]; exact small1000 (by omega), ext_fresh (e'.trans e5) nD, st5.upd (st4.ne nD).1 (st4.ne nD).2, acc ++ [y], dss ++ [.tuple dy], upd_same, by rw [List.length_append, la]; rfl, ?_, ?_⟩
      · have eD : Ext D H5 (upd H5 D (.lst (acc ++ [y]))) := ext_upd (Ext.refl D H5) hD5
        exact DpAll.append (keepNs eD hD5 _ _ (noLs_of hs) (keepXs e5 st' _ _ hs.sfs ha)) (.cons (keepN eD hD5 _ _ sy.noL hy) .nil)
      · intro d hd
        rw [List.mem_append, List.mem_singleton] at hd
        rcases hd with hd | rfl
        · exact hs d hd
        · exact ⟨dy, rfl, sy⟩
    · obtain ⟨e5, st5, acc, dss, hD, la, ha, hs⟩ := hP
      refine ⟨D, acc, rfl, .inl ⟨.of hD, fun t nt => ?_⟩⟩
      have s6 := same_upd (o := .tup acc) nt
      exact k _ _ dss ((e4.trans e5).trans s6.ext) (st5.keep s6) (.tup (.of upd_same) (keepDs s6 _ _ ha)) hs (by rw [← DpAll.length ha, la]; omega)
end
/-! ### the law's own tables: two tables that are written over -/
def setT (f : Nat → Nat → Bool) (a b : Nat) (x y : Nat) : Bool := f x y || (decide (x = a) && decide (y = b))
theorem setT_same (f : Nat → Nat → Bool) (a b : Nat) : setT f a b a b = true := by simp [setT]
theorem leq_setT {n : Nat} {f : Nat → Nat → Bool} {a b : Nat} : leq n f (setT f a b) := fun x y _ _ h => by
  unfold setT
  rw [h]
  rfl
theorem row_other {n : Nat} {f : Nat → Nat → Bool} {a b x : Nat} (h : x ≠ a) : row n (setT f a b x) = row n (f x) := by
  unfold row
  apply List.map_congr_left
  intro y _
  unfold setT
  rw [decide_eq_false h, Bool.false_and, Bool.or_false]
theorem row_set {n : Nat} {f : Nat → Nat → Bool} {a b : Nat} : (row n (f a)).set b (.bl true) = row n (setT f a b a) := by
  apply List.ext_getElem?
  intro i
  rw [List.getElem?_set]
  unfold row
  by_cases e : b = i
  · subst e
    rw [if_pos rfl, List.length_map, List.length_range]
    by_cases hb : b < n
    · rw [if_pos hb, List.getElem?_map, List.getElem?_range hb]
      show some (V.bl true) = some (V.bl (setT f a b a b))
      rw [setT_same]
    · rw [if_neg hb, List.getElem?_eq_none]
      rw [List.length_map, List.length_range]
      omega
  · rw [if_neg e, List.getElem?_map, List.getElem?_map]
    cases q : (List.range n)[i]? with
    | none => rfl
    | some y =>
      have hy : y = i := by
        rw [List.getElem?_eq_some_iff] at q
        obtain ⟨h, q⟩ := q
        rw [List.getElem_range] at q
        exact q.symm
      subst hy
      show some (V.bl (f a y)) = some (V.bl (setT f a b a y))
      unfold setT
      rw [decide_eq_false (show ¬ y = b from fun z => e z.symm), Bool.and_false, Bool.or_false]
structure Two (H0 H : Hp) (A B : Addr) (rs qs : List Addr) (N : Addr) (on : Option HO) (n : Nat) (f g : Nat → Nat → Bool) : Prop where
  same : Same H0 H
  ma : MatH H A rs n f
  mb : MatH H B qs n g
  dj : ∀ r ∈ rs, r ∉ qs
  na : ∀ r ∈ rs, New H0 r ∧ r ≠ A ∧ r ≠ B
  nb : ∀ r ∈ qs, New H0 r ∧ r ≠ A ∧ r ≠ B
  nl : ∀ o, on = some o → H N = some o ∧ N ∉ rs ∧ N ∉ qs
theorem MatH.set {H : Hp} {A : Addr} {rs : List Addr} {n a b : Nat} {f : Nat → Nat → Bool} {r : Addr} (m : MatH H A rs n f) (e : rs[a]? = some r) : MatH (upd H r (.lst ((row n (f a)).set b (.bl true)))) A rs n (setT f a b) := by
  have hr : r ∈ rs := List.mem_of_getElem? e
  refine ⟨by rw [upd_ne (show A ≠ r from fun z => m.neq (by rw [z]; exact hr))]; exact m.top, m.len, fun x q hx => ?_, m.nd, m.neq⟩
  by_cases z : q = r
  · subst z
    have hxa : x = a := (List.getElem?_inj (by rw [List.getElem?_eq_some_iff] at hx; exact hx.1) m.nd).mp (hx.trans e.symm)
    subst hxa
    rw [upd_same, row_set]
  · rw [upd_ne z]
    have hxa : x ≠ a := fun h => by
      subst h
      rw [e] at hx
      exact z (Option.some.inj hx).symm
    rw [row_other hxa]
    exact m.rows x q hx
theorem MatH.other {H : Hp} {A : Addr} {rs : List Addr} {n : Nat} {f : Nat → Nat → Bool} {r : Addr} {o : HO} (m : MatH H A rs n f) (h1 : r ∉ rs) (h2 : r ≠ A) : MatH (upd H r o) A rs n f :=
  ⟨by rw [upd_ne h2.symm]; exact m.top, m.len, fun x q hx => by rw [upd_ne (show q ≠ r from fun z => h1 (by rw [← z]; exact List.mem_of_getElem? hx))]; exact m.rows x q hx, m.nd, m.neq⟩
section
variable {H0 H : Hp} {A B N : Addr} {rs qs : List Addr} {on : Option HO} {n a b : Nat} {f g : Nat → Nat → Bool} {r : Addr}
theorem Two.setA (t : Two H0 H A B rs qs N on n f g) (e : rs[a]? = some r) : Two H0 (upd H r (.lst ((row n (f a)).set b (.bl true)))) A B rs qs N on n (setT f a b) g := by
  have hr : r ∈ rs := List.mem_of_getElem? e
  refine ⟨same_new t.same (t.na r hr).1, t.ma.set e, t.mb.other (t.dj r hr) (t.na r hr).2.2, t.dj, t.na, t.nb, fun o ho => ?_⟩
  obtain ⟨h1, h2, h3⟩ := t.nl o ho
  exact ⟨by rw [upd_ne (show N ≠ r from fun z => h2 (by rw [z]; exact hr))]; exact h1, h2, h3⟩
theorem Two.setB (t : Two H0 H A B rs qs N on n f g) (e : qs[a]? = some r) : Two H0 (upd H r (.lst ((row n (g a)).set b (.bl true)))) A B rs qs N on n f (setT g a b) := by
  have hr : r ∈ qs := List.mem_of_getElem? e
  refine ⟨same_new t.same (t.nb r hr).1, t.ma.other (fun h => t.dj r h hr) (t.nb r hr).2.1, t.mb.set e, t.dj, t.na, t.nb, fun o ho => ?_⟩
  obtain ⟨h1, h2, h3⟩ := t.nl o ho
  exact ⟨by rw [upd_ne (show N ≠ r from fun z => h3 (by rw [z]; exact hr))]; exact h1, h2, h3⟩
theorem MatH.get (m : MatH H A rs n f) (ha : a < n) : ∃ r, rs[a]? = some r ∧ H r = some (.lst (row n (f a))) := by
  have : a < rs.length := by rw [m.len]; exact ha
  exact ⟨_, List.getElem?_eq_getElem this, m.rows a _ (List.getElem?_eq_getElem this)⟩
end
/-- t[x][y] = True, by the rows' list -/
theorem set_at {K : PySem.W.Frag} {σ : St} {H : Hp} {A : Addr} {rs : List Addr} {n a b : Nat} {f : Nat → Nat → Bool} {tx ty : TE} {iA : Nat} {R : St → Hp → Prop} (m : MatH H A rs n f) (ha : a < n) (hb : b < n) (eA : σ[iA]? = some (some (.ref A)))
    (hx : ∀ Q : VK, Q (.int (a : Nat)) H → tx σ H Q) (hy : ∀ Q : VK, Q (.int (b : Nat)) H → ty σ H Q)
    (k : ∀ r, rs[a]? = some r → R σ (upd H r (.lst ((row n (f a)).set b (.bl true))))) : gSub (tOp (rIxL K) (tVar iA) tx) ty rSetL (.bl true) σ H R := by
  obtain ⟨r, er, hr⟩ := m.get ha
  refine ⟨_, eA, hx _ ⟨A, _, _, .ref r, rfl, rfl, .of m.top, atI_nat (by rw [List.getElem?_map, er]; rfl), hy _ ⟨r, _, _, b, rfl, rfl, hr, ?_, k r er⟩⟩⟩
  unfold ixN row
  rw [List.length_map, List.length_range, if_pos (by omega), if_pos (by omega), Int.toNat_natCast]
theorem Under.setA {n : Nat} {F G f g : Nat → Nat → Bool} {a b : Nat} (u : Under n F G f g) (h : ∀ f' g', Closed n f' g' → leq n f f' → leq n g g' → f' a b = true) : Under n F G (setT f a b) g := by
  refine ⟨u.lf.trans leq_setT, u.lg, fun f' g' c h1 h2 => ?_⟩
  obtain ⟨hf, hg⟩ := u.le f' g' c h1 h2
  refine ⟨fun x y hx hy q => ?_, hg⟩
  unfold setT at q
  rw [Bool.or_eq_true, Bool.and_eq_true, decide_eq_true_eq, decide_eq_true_eq] at q
  rcases q with q | ⟨rfl, rfl⟩
  · exact hf x y hx hy q
  · exact h f' g' c hf hg
theorem Under.setB {n : Nat} {F G f g : Nat → Nat → Bool} {a b : Nat} (u : Under n F G f g) (h : ∀ f' g', Closed n f' g' → leq n f f' → leq n g g' → g' a b = true) : Under n F G f (setT g a b) := by
  refine ⟨u.lf, u.lg.trans leq_setT, fun f' g' c h1 h2 => ?_⟩
  obtain ⟨hf, hg⟩ := u.le f' g' c h1 h2
  refine ⟨hf, fun x y hx hy q => ?_⟩
  unfold setT at q
  rw [Bool.or_eq_true, Bool.and_eq_true, decide_eq_true_eq, decide_eq_true_eq] at q
  rcases q with q | ⟨rfl, rfl⟩
  · exact hg x y hx hy q
  · exact h f' g' c hf hg
/-! ### one turn over all pairs -/
def Eqq (n : Nat) (f1 g1 f g : Nat → Nat → Bool) : Prop := leq n f f1 ∧ leq n g g1
structure C12 (f1 g1 : Nat → Nat → Bool) (x y : Nat) : Prop where
  a : f1 y x = true → g1 x y = true
  b : f1 y x = true → g1 y x = true → f1 x y = true
structure C34 (f1 g1 : Nat → Nat → Bool) (x y z : Nat) : Prop where
  a : f1 x y = true → f1 y z = true → f1 x z = true
  b : g1 x y = true → g1 y z = true → g1 x z = true
def Chk (n : Nat) (f1 g1 : Nat → Nat → Bool) (x y : Nat) : Prop := C12 f1 g1 x y ∧ ∀ z, z < n → C34 f1 g1 x y z
/-- in a turn that began at f1, g1 -/
structure In (n : Nat) (F G f1 g1 f g : Nat → Nat → Bool) (D : Prop) : Prop where
  lf : leq n f1 f
  lg : leq n g1 g
  un : Under n F G f g
  dn : Eqq n f1 g1 f g → D
section
variable {n : Nat} {F G f1 g1 f g : Nat → Nat → Bool} {D D' : Prop}
theorem In.mono (i : In n F G f1 g1 f g D) (h : D → D') : In n F G f1 g1 f g D' := ⟨i.lf, i.lg, i.un, fun e => h (i.dn e)⟩
theorem In.setA {a b : Nat} (i : In n F G f1 g1 f g D) (ha : a < n) (hb : b < n) (h : ∀ f' g', Closed n f' g' → leq n f f' → leq n g g' → f' a b = true) (hd : D → f1 a b = true → D') : In n F G f1 g1 (setT f a b) g D' :=
  ⟨i.lf.trans leq_setT, i.lg, i.un.setA h, fun e => hd (i.dn ⟨leq_setT.trans e.1, e.2⟩) (e.1 a b ha hb (setT_same f a b))⟩
theorem In.setB {a b : Nat} (i : In n F G f1 g1 f g D) (ha : a < n) (hb : b < n) (h : ∀ f' g', Closed n f' g' → leq n f f' → leq n g g' → g' a b = true) (hd : D → g1 a b = true → D') : In n F G f1 g1 f (setT g a b) D' :=
  ⟨i.lf, i.lg.trans leq_setT, i.un.setB h, fun e => hd (i.dn ⟨e.1, leq_setT.trans e.2⟩) (e.2 a b ha hb (setT_same g a b))⟩
theorem In.turn (i : In n F G f1 g1 f g (∀ x, x < n → ∀ y, y < n → Chk n f1 g1 x y)) {t : Nat} (u1 : Under n F G f1 g1) (h : Closed n f1 g1 ∨ lack n f1 + lack n g1 + t ≤ 32) : Closed n f g ∨ lack n f + lack n g + (t + 1) ≤ 32 := by
  have close : Closed n f1 g1 → Eqq n f1 g1 f g → Closed n f g := fun c e => by
    have ef := leq.eq i.lf e.1
    have eg := leq.eq i.lg e.2
    refine ⟨fun x y z hx hy hz a b => ?_, fun x y hx hy a b => ?_, fun x y hx hy a => ?_, fun x y z hx hy hz a b => ?_⟩
    · exact i.lf x z hx hz (c.tr x y z hx hy hz (e.1 x y hx hy a) (e.1 y z hy hz b))
    · exact i.lf x y hx hy (c.an x y hx hy (e.1 y x hy hx a) (e.2 y x hy hx b))
    · exact i.lg x y hx hy (c.up x y hx hy (e.1 y x hy hx a))
    · exact i.lg x z hx hz (c.tg x y z hx hy hz (e.2 x y hx hy a) (e.2 y z hy hz b))
  rcases h with c | h
  · exact .inl (close c (i.un.le f1 g1 c u1.lf u1.lg))
  · by_cases e : Eqq n f1 g1 f g
    · have d := i.dn e
      refine .inl (close ⟨fun x y z hx hy hz => ((d x hx y hy).2 z hz).a, fun x y hx hy => (d x hx y hy).1.b, fun x y hx hy => (d x hx y hy).1.a, fun x y z hx hy hz => ((d x hx y hy).2 z hz).b⟩ e)
    · refine .inr ?_
      have l1 := lack_le i.lf
      have l2 := lack_le i.lg
      by_cases d1 : ∃ x y, x < n ∧ y < n ∧ f1 x y ≠ f x y
      · have := lack_lt i.lf d1
        omega
      · by_cases d2 : ∃ x y, x < n ∧ y < n ∧ g1 x y ≠ g x y
        · have := lack_lt i.lg d2
          omega
        · exfalso
          refine e ⟨fun x y hx hy q => ?_, fun x y hx hy q => ?_⟩
          · have := Classical.byContradiction fun z => d1 ⟨x, y, hx, hy, z⟩
            rw [this]
            exact q
          · have := Classical.byContradiction fun z => d2 ⟨x, y, hx, hy, z⟩
            rw [this]
            exact q
/-- nothing to do at a test that is not met -/
theorem In.skip (i : In n F G f1 g1 f g D) (hd : Eqq n f1 g1 f g → D → D') : In n F G f1 g1 f g D' := ⟨i.lf, i.lg, i.un, fun e => hd e (i.dn e)⟩
end
theorem row_const (n : Nat) (b : Bool) : (List.replicate n [V.bl b]).flatten = row n fun _ => b := by
  unfold row
  rw [List.map_const', List.length_range]
  induction n with
  | zero => rfl
  | succ n ih =>
    rw [List.replicate_succ, List.replicate_succ, List.flatten_cons, ih]
    rfl
theorem diag_at {n x y : Nat} (hx : x < n) : inW (diag n) (pr x y) = decide (x = y) := by
  unfold inW diag
  rw [List.any_map]
  cases h : decide (x = y) with
  | true =>
    rw [List.any_eq_true]
    have := of_decide_eq_true h
    subst this
    exact ⟨x, List.mem_range.mpr hx, by simp [pr, PyData.eqv, PyData.eqvAll]⟩
  | false =>
    rw [List.any_eq_false]
    intro z _
    have := of_decide_eq_false h
    simp only [Function.comp, pr, PyData.eqv, PyData.eqvAll, Bool.and_true, Bool.and_eq_true, beq_iff_eq]
    omega
theorem eqv_pr (a b x y : Nat) : PyData.eqv (pr a b) (pr x y) = (decide (x = a) && decide (y = b)) := by
  simp only [pr, PyData.eqv, PyData.eqvAll, Bool.and_true]
  rw [Bool.eq_iff_iff]
  simp only [Bool.and_eq_true, beq_iff_eq, decide_eq_true_eq]
  omega
theorem inW_snoc (l : List PyData) (a b x y : Nat) : inW (l ++ [pr a b]) (pr x y) = setT (fun x y => inW l (pr x y)) a b x y := by
  rw [inW_append]
  show (_ || (PyData.eqv (pr a b) (pr x y) || false)) = _
  rw [Bool.or_false, eqv_pr]
  rfl
section
variable {P : Program} {w : World} {K : PySem.W.Frag} {mg : Str → Option Value} {base : Heap}
theorem rg_at {n i : Nat} {v : V} (h : (rgV 0 n)[i]? = some v) : i < n ∧ v = .int (i : Nat) := by
  unfold rgV at h
  rw [List.getElem?_map] at h
  have e : ((n : Int) - 0).toNat = n := by omega
  rw [e] at h
  by_cases hi : i < n
  · rw [List.getElem?_range hi] at h
    have this : V.int (0 + (i : Int)) = v := Option.some.inj h
    rw [Int.zero_add] at this
    exact ⟨hi, this.symm⟩
  · rw [List.getElem?_eq_none (by rw [List.length_range]; omega)] at h
    cases h
theorem rg_len {n : Nat} : (rgV 0 n).length = n := by
  rw [rgV_length]
  omega
theorem eqint (x y : Nat) : decide (V.int (x : Nat) = V.int (y : Nat)) = decide (x = y) := by
  by_cases h : x = y
  · subst h
    rw [decide_eq_true rfl, decide_eq_true rfl]
  · rw [decide_eq_false h, decide_eq_false (fun z => h (by have := V.int.inj z; omega))]
theorem Two.more {H0 H : Hp} {A B N0 N : Addr} {rs qs : List Addr} {n : Nat} {f g : Nat → Nat → Bool} {o : HO} (t : Two H0 H A B rs qs N0 none n f g) (nN : H N = none) : Two H0 (upd H N o) A B rs qs N (some o) n f g := by
  refine ⟨t.same.trans (same_upd nN), t.ma.keep (same_upd nN), t.mb.keep (same_upd nN), t.dj, t.na, t.nb, fun o' ho => ?_⟩
  cases ho
  refine ⟨upd_same, fun h => ?_, fun h => ?_⟩
  · obtain ⟨x, hx⟩ := List.getElem?_of_mem h
    have := t.ma.rows x N hx
    rw [nN] at this
    cases this
  · obtain ⟨x, hx⟩ := List.getElem?_of_mem h
    have := t.mb.rows x N hx
    rw [nN] at this
    cases this
def spSub5 (K : PySem.W.Frag) : Sp := fun vs H Q _ => ∃ (v x : V) (n : Nat) (m : Int) (ps : List PyData), vs = [v, x] ∧ Sig K H v n m ∧ n ≤ 4 ∧ Dp K H x (.tuple ps) ∧ Sens n m ps ∧ ∀ r H' f g, Same H H' → Dp K H' r (.tuple [mat n f, mat n g]) → Least n (f0 n ps) (g0 ps) f g → Q r H'
theorem ok__law_sub (T : Txt K mg) : FnOk P w K mg base CX0 1 T.f__law_sub T.d__law_sub ["signature", "premises"] (spSub5 K) := by
  refine T.F__law_sub.ok sc_law_sub (fun vs H Q E h => ?_) (fun cdv A outer s H vs Q E hr h => ?_)
  · obtain ⟨v, x, n, m, ps, rfl, _⟩ := h
    rfl
  · obtain ⟨v, x, n, m, ps, rfl, ⟨a, rfl, ha⟩, hn, hx, hs, k⟩ := h
    refine ⟨_, (pss_cons (ps_setLc (i := 4) (own := [("x", 2)]) (g := gName 2) (tt := tYes) rfl sc_law_sub.nd rfl rfl (sw_true rfl rfl rfl (by decide +kernel)) (pi_range1 (by rfl) T.n_range (pa_cons (pe_ix ix_tup (pv 0) pe_int (fun _ _ => rfl)) pa_nil)) (blkOk_by (own := [("x", 2)]) (N := N_law_sub) (sc := defScope s_law_sub) (by decide +kernel)) (fun _ _ _ _ _ => pg_name (i := 2) sc_law_sub.nd rfl (Or.inr rfl)) (fun _ _ _ _ _ => pts_nil) (fun _ _ _ _ _ => (pe_lc (own := [("y", 3)]) (g := gName 3) (tt := tYes) rfl sc_law_sub.nd (pi_range1 (by rfl) T.n_range (pa_cons (pe_ix (kq_ixT K rfl) (pv 0) pe_int (fun _ _ => rfl)) pa_nil)) (blkOk_by (own := [("y", 3)]) (by kernel_rfl!)) (fun _ _ _ _ _ => pg_name (i := 3) sc_law_sub.nd rfl (Or.inl rfl)) (fun _ _ _ _ _ => pts_nil) (fun _ _ _ _ _ => (pe_cmpR op_eq (pv 2) (pv 3) (nomark _))))))
      (pss_cons (ps_setLc (i := 5) (own := [("x", 2)]) (g := gName 2) (tt := tYes) rfl sc_law_sub.nd rfl rfl (sw_true rfl rfl rfl (by decide +kernel)) (pi_range1 (by rfl) T.n_range (pa_cons (pe_ix ix_tup (pv 0) pe_int (fun _ _ => rfl)) pa_nil)) (blkOk_by (own := [("x", 2)]) (N := N_law_sub) (sc := defScope s_law_sub) (by decide +kernel)) (fun _ _ _ _ _ => pg_name (i := 2) sc_law_sub.nd rfl (Or.inl rfl)) (fun _ _ _ _ _ => pts_nil) (fun _ _ _ _ _ => (pe_op op_rep (pe_lst (pa_cons pe_bl pa_nil)) (pe_ix (kq_ixT K rfl) (pv 0) pe_int (fun _ _ => rfl)))))
      (pss_cons (ps_for PassesOwn.never rfl (pi_tup (pv 1)) (pg_name (i := 6) sc_law_sub.nd rfl (Or.inl rfl)) (pss_cons (ps_if (pt_cmpR op_eq (pe_ix ix_tup (pv 6) pe_int (fun _ _ => rfl)) pe_str (nomark _)) (pss_one (ps_asg pe_bl (pg_sub (pe_ix ix_list (pv 4) (pe_ix ix_tup (pv 6) pe_int (fun _ _ => rfl)) (fun _ _ => rfl)) (pe_ix ix_tup (pv 6) pe_int (fun _ _ => rfl)) set_list))) pss_nil)
      (pss_cons (ps_if (pt_cmpR op_eq (pe_ix ix_tup (pv 6) pe_int (fun _ _ => rfl)) pe_str (nomark _)) (pss_one (ps_asg pe_bl (pg_sub (pe_ix ix_list (pv 5) (pe_ix ix_tup (pv 6) pe_int (fun _ _ => rfl)) (fun _ _ => rfl)) (pe_ix ix_tup (pv 6) pe_int (fun _ _ => rfl)) set_list))) pss_nil)
      (pss_one (ps_if (pt_cmpR op_eq (pe_ix ix_tup (pv 6) pe_int (fun _ _ => rfl)) pe_str (nomark _)) (pss_one (ps_asg pe_bl (pg_sub (pe_ix ix_list (pv 5) (pe_ix ix_tup (pv 6) pe_int (fun _ _ => rfl)) (fun _ _ => rfl)) (pe_ix ix_tup (pv 6) pe_int (fun _ _ => rfl)) set_list))) pss_nil)))))
      (pss_cons (ps_set (i := 7) sc_law_sub.nd rfl (Or.inl rfl) (pe_listRg rfl (by rfl) T.n_list (prg_1 (by rfl) T.n_range (pe_ix ix_tup (pv 0) pe_int (fun _ _ => rfl)))))
      (pss_cons (ps_for PassesOwn.never rfl (pi_range1 (by rfl) T.n_range (pa_cons pe_int pa_nil)) (pg_name (i := 8) sc_law_sub.nd rfl (Or.inl rfl)) (pss_one (ps_for PassesOwn.never rfl (pi_list (pv 7)) (pg_name (i := 2) sc_law_sub.nd rfl (Or.inl rfl)) (pss_one (ps_for PassesOwn.never rfl (pi_list (pv 7)) (pg_name (i := 3) sc_law_sub.nd rfl (Or.inl rfl)) (pss_cut (ps_if (pt_val (pe_ix ix_list (pe_ix ix_list (pv 4) (pv 3) (fun _ _ => rfl)) (pv 2) (fun _ _ => rfl))) (pss_cons (ps_asg pe_bl (pg_sub (pe_ix ix_list (pv 5) (pv 2) (fun _ _ => rfl)) (pv 3) set_list))
      (pss_one (ps_if (pt_val (pe_ix ix_list (pe_ix ix_list (pv 5) (pv 3) (fun _ _ => rfl)) (pv 2) (fun _ _ => rfl))) (pss_one (ps_asg pe_bl (pg_sub (pe_ix ix_list (pv 4) (pv 2) (fun _ _ => rfl)) (pv 3) set_list))) pss_nil))) pss_nil)
      (pss_one (ps_for PassesOwn.never rfl (pi_list (pv 7)) (pg_name (i := 9) sc_law_sub.nd rfl (Or.inl rfl)) (pss_cut (ps_if (PW.pt (pw_and (pt_val (pe_ix ix_list (pe_ix ix_list (pv 4) (pv 2) (fun _ _ => rfl)) (pv 3) (fun _ _ => rfl))) (pw_and1 (pt_val (pe_ix ix_list (pe_ix ix_list (pv 4) (pv 3) (fun _ _ => rfl)) (pv 9) (fun _ _ => rfl)))))) (pss_one (ps_asg pe_bl (pg_sub (pe_ix ix_list (pv 4) (pv 2) (fun _ _ => rfl)) (pv 9) set_list))) pss_nil)
      (pss_one (ps_if (PW.pt (pw_and (pt_val (pe_ix ix_list (pe_ix ix_list (pv 5) (pv 2) (fun _ _ => rfl)) (pv 3) (fun _ _ => rfl))) (pw_and1 (pt_val (pe_ix ix_list (pe_ix ix_list (pv 5) (pv 3) (fun _ _ => rfl)) (pv 9) (fun _ _ => rfl)))))) (pss_one (ps_asg pe_bl (pg_sub (pe_ix ix_list (pv 5) (pv 2) (fun _ _ => rfl)) (pv 9) set_list))) pss_nil)))))))))))
      (pss_one (ps_ret (pe_tup (pa_cons (pv 4) (pa_cons (pv 5) pa_nil)))))))))), ?_⟩
    obtain ⟨ax, xs, rfl, hax, hxs⟩ := dp_tup hx
    have lxs := DpAll.length hxs
    dsimp only [tSeq, tAsg]
    refine mat_lc (n := n) (f := fun x y => decide (x = y)) (by omega) (fun R h => ⟨_, rfl, a, _, _, _, rfl, rfl, ha, atI_nat (j := 0) rfl, n, rfl, by omega, by omega, h⟩) (fun _ => rfl) (fun x H2 hx s R h => ⟨_, rfl, a, _, _, _, rfl, rfl, s.sqT ha, atI_nat (j := 0) rfl, n, rfl, by omega, by omega, h⟩) (fun _ _ => rfl) (fun x y H2 hx hy s R h => ⟨_, rfl, _, rfl, rfl, by rw [eqint]; exact h _ (Same.refl _)⟩) fun A rs H1 s1 mA nwA nwr => ?_
    dsimp only [gName, tSeq, tAsg]
    have ha1 := s1.sqT ha
    refine mat_lcR (n := n) (f := fun _ _ => false) (by omega) (fun R h => ⟨_, rfl, a, _, _, _, rfl, rfl, ha1, atI_nat (j := 0) rfl, n, rfl, by omega, by omega, h⟩) (fun _ => rfl) (fun x H2 hx s R h => ?_) fun B qs H2 s2 mB nwB nwq => ?_
    · refine ⟨by show 1 ≤ sizeLine; decide, fun p np => ⟨_, rfl, a, _, _, _, rfl, rfl, (same_upd np).sqT (s.sqT ha1), atI_nat (j := 0) rfl, p, n, _, rfl, rfl, upd_same, by omega, by omega, ?_, fun r nr => ?_⟩⟩
      · rw [Int.toNat_natCast]
        refine small ?_
        show 1 * n ≤ 1000
        omega
      · have rp : r ≠ p := fun z => by
          rw [z, upd_same] at nr
          cases nr
        refine h r _ (by rw [upd_ne rp] at nr; exact nr) ((same_upd np).trans (same_upd nr)) ?_
        rw [upd_same, Int.toNat_natCast, row_const]
    have two : Two H H2 A B rs qs A none n (fun x y => decide (x = y)) (fun _ _ => false) := by
      have inr : ∀ r ∈ rs, ∃ x, H1 r = some (.lst (row n fun y => decide (x = y))) := fun r hr => by
        obtain ⟨x, hx⟩ := List.getElem?_of_mem hr
        exact ⟨x, mA.rows x r hx⟩
      refine ⟨s1.trans s2, mA.keep s2, mB, fun r hr hq => ?_, fun r hr => ⟨nwr r hr, fun z => mA.neq (by rw [← z]; exact hr), fun z => ?_⟩, fun r hr => ⟨(nwq r hr).back s1, (nwq r hr).ne mA.top, fun z => mB.neq (by rw [← z]; exact hr)⟩, fun o ho => nomatch ho⟩
      · obtain ⟨x, hx⟩ := inr r hr
        exact absurd rfl ((nwq r hq).ne hx)
      · obtain ⟨x, hx⟩ := inr r hr
        exact absurd z.symm (nwB.ne hx)
    refine ⟨_, rfl, ax, rfl, ⟨_, two.same.sqT hax⟩, for_tup (K := K) (xs := xs) (fun i σ' H' => ∃ y6 f g, σ' = [some (.ref a), some (.ref ax), none, none, some (.ref A), some (.ref B), y6, none, none, none] ∧ Two H H' A B rs qs A none n f g ∧ (∀ x y, x < n → y < n → f x y = inW (parts n (ps.take i)) (pr x y)) ∧ (∀ x y, x < n → y < n → g x y = inW (counts (ps.take i)) (pr x y))) ⟨none, _, _, rfl, two, fun x y hx hy => ?_, fun x y hx hy => ?_⟩ (fun i σ' H' _ hP => ?_) (fun i x σ' H' hi hP => ?_) fun σ' H' hP => ?_⟩
    · unfold parts
      rw [List.take_zero, List.flatMap_nil, List.append_nil, diag_at hx]
    · rfl
    · obtain ⟨_, _, _, _, t, _⟩ := hP
      exact t.same.sqT hax
    · obtain ⟨y6, f, g, rfl, t, ef, eg⟩ := hP
      obtain ⟨d, ed, dd⟩ := DpAll.mem hxs hi
      obtain ⟨ds, rfl, sen⟩ := hs d (List.mem_of_getElem? ed)
      obtain ⟨b, ys, rfl, hb0, hys⟩ := dp_tup dd
      have hb := t.same.sqT hb0
      have stay : ∀ d', ps[i]? = some d' → allP d' = [] → cntP d' = [] → (∀ x y, x < n → y < n → f x y = inW (parts n (ps.take (i + 1))) (pr x y)) ∧ (∀ x y, x < n → y < n → g x y = inW (counts (ps.take (i + 1))) (pr x y)) := by
        intro d' e h1 h2
        rw [parts_succ e, counts_succ e, h1, h2, List.append_nil, List.append_nil]
        exact ⟨ef, eg⟩
      cases sv_of hys sen with
      | noun w x y hx hy =>
        refine snd_test (K := K) rfl hb rfl ?_
        by_cases w1 : w = "all"
        · subst w1
          rw [decide_eq_true rfl]
          refine iteT ?_
          dsimp only [tAsg, tC]
          refine set_at (K := K) t.ma hx hy rfl (fun Q q => ⟨_, rfl, b, _, _, _, rfl, rfl, hb, atI_nat (j := 1) rfl, q⟩) (fun Q q => ⟨_, rfl, b, _, _, _, rfl, rfl, hb, atI_nat (j := 2) rfl, q⟩) fun r er => ?_
          have t2 := t.setA (b := y) er
          refine snd_test (K := K) rfl (t2.same.sqT hb0) rfl ?_
          rw [strne (by decide +kernel)]
          refine iteF (snd_test (K := K) rfl (t2.same.sqT hb0) rfl ?_)
          rw [strne (by decide +kernel)]
          refine iteF ⟨_, _, _, rfl, t2, fun u v hu hv => ?_, fun u v hu hv => ?_⟩
          · rw [parts_succ ed, all_all, inW_snoc]
            unfold setT
            rw [ef u v hu hv]
          · rw [counts_succ ed, cnt_not (by decide +kernel) (by decide +kernel), List.append_nil]
            exact eg u v hu hv
        · rw [strne w1]
          refine iteF (snd_test (K := K) rfl hb rfl ?_)
          by_cases w2 : w = "as many"
          · subst w2
            rw [decide_eq_true rfl]
            refine iteT ?_
            dsimp only [tAsg, tC]
            refine set_at (K := K) t.mb hx hy rfl (fun Q q => ⟨_, rfl, b, _, _, _, rfl, rfl, hb, atI_nat (j := 1) rfl, q⟩) (fun Q q => ⟨_, rfl, b, _, _, _, rfl, rfl, hb, atI_nat (j := 2) rfl, q⟩) fun r er => ?_
            have t2 := t.setB (b := y) er
            refine snd_test (K := K) rfl (t2.same.sqT hb0) rfl ?_
            rw [strne (by decide +kernel)]
            refine iteF ⟨_, _, _, rfl, t2, fun u v hu hv => ?_, fun u v hu hv => ?_⟩
            · rw [parts_succ ed, all_not w1, List.append_nil]
              exact ef u v hu hv
            · rw [counts_succ ed, cnt_as, inW_snoc]
              unfold setT
              rw [eg u v hu hv]
          · rw [strne w2]
            refine iteF (snd_test (K := K) rfl hb rfl ?_)
            by_cases w3 : w = "fewer"
            · subst w3
              rw [decide_eq_true rfl]
              refine iteT ?_
              dsimp only [tAsg, tC]
              refine set_at (K := K) t.mb hy hx rfl (fun Q q => ⟨_, rfl, b, _, _, _, rfl, rfl, hb, atI_nat (j := 2) rfl, q⟩) (fun Q q => ⟨_, rfl, b, _, _, _, rfl, rfl, hb, atI_nat (j := 1) rfl, q⟩) fun r er => ?_
              refine ⟨_, _, _, rfl, t.setB (b := x) er, fun u v hu hv => ?_, fun u v hu hv => ?_⟩
              · rw [parts_succ ed, all_not w1, List.append_nil]
                exact ef u v hu hv
              · rw [counts_succ ed, cnt_fewer, inW_snoc]
                unfold setT
                rw [eg u v hu hv]
            · rw [strne w3]
              obtain ⟨p1, p2⟩ := stay _ ed (all_not w1 x y) (cnt_not w2 w3 x y)
              exact iteF ⟨_, _, _, rfl, t, p1, p2⟩
      | self q x b v =>
        refine snd_test (K := K) rfl hb rfl ?_
        rw [strne (by decide +kernel)]
        refine iteF (snd_test (K := K) rfl hb rfl ?_)
        rw [strne (by decide +kernel)]
        refine iteF (snd_test (K := K) rfl hb rfl ?_)
        rw [strne (by decide +kernel)]
        obtain ⟨p1, p2⟩ := stay _ ed rfl rfl
        exact iteF ⟨_, _, _, rfl, t, p1, p2⟩
      | verb q x b v c p y =>
        refine snd_test (K := K) rfl hb rfl ?_
        rw [strne (by decide +kernel)]
        refine iteF (snd_test (K := K) rfl hb rfl ?_)
        rw [strne (by decide +kernel)]
        refine iteF (snd_test (K := K) rfl hb rfl ?_)
        rw [strne (by decide +kernel)]
        obtain ⟨p1, p2⟩ := stay _ ed rfl rfl
        exact iteF ⟨_, _, _, rfl, t, p1, p2⟩
    · obtain ⟨y6, fs, gs, rfl, t0, ef, eg⟩ := hP
      rw [lxs, List.take_length] at ef eg
      have un0 : Under n (f0 n ps) (g0 ps) fs gs := by
        refine ⟨fun x y hx hy q => by rw [ef x y hx hy]; exact q, fun x y hx hy q => by rw [eg x y hx hy]; exact q, fun f' g' _ h1 h2 => ⟨fun x y hx hy q => h1 x y hx hy (by rw [ef x y hx hy] at q; exact q), fun x y hx hy q => h2 x y hx hy (by rw [eg x y hx hy] at q; exact q)⟩⟩
      have ha3 := t0.same.sqT ha
      refine ⟨_, rfl, a, _, _, _, rfl, rfl, ha3, atI_nat (j := 0) rfl, n, rfl, RgOk.of_le (by omega) (by omega) (by omega) (by omega), fun N nN => ?_⟩
      have t1 : Two H (upd H' N (.lst (rgV 0 n))) A B rs qs N (some (.lst (rgV 0 n))) n fs gs := t0.more nN
      generalize upd H' N (.lst (rgV 0 n)) = H4 at t1
      have l0 : lack n fs + lack n gs + 0 ≤ 32 := by
        have := lack_le16 hn fs
        have := lack_le16 hn gs
        omega
      refine ⟨40, rfl, by decide, by decide, for_range (lo := 0) (n := 40) (fun t σ' H' => ∃ y2 y3 y8 y9 f g, σ' = [some (.ref a), some (.ref ax), y2, y3, some (.ref A), some (.ref B), y6, some (.ref N), y8, y9] ∧ Two H H' A B rs qs N (some (.lst (rgV 0 n))) n f g ∧ Under n (f0 n ps) (g0 ps) f g ∧ (Closed n f g ∨ lack n f + lack n g + t ≤ 32)) ⟨none, none, none, none, fs, gs, rfl, t1, un0, .inr l0⟩ (fun tn σ' H' htn hP => ?_) fun σ' H' hP => ?_⟩
      · obtain ⟨y2, y3, y8, y9, f1, g1, rfl, t, u1, hc⟩ := hP
        have hN := (t.nl _ rfl).1
        refine ⟨_, rfl, N, rfl, ⟨_, .of hN⟩, for_list (K := K) (xs := rgV 0 n) (fun i σ' H' => ∃ y2 y3 y8 y9 f g, σ' = [some (.ref a), some (.ref ax), y2, y3, some (.ref A), some (.ref B), y6, some (.ref N), y8, y9] ∧ Two H H' A B rs qs N (some (.lst (rgV 0 n))) n f g ∧ In n (f0 n ps) (g0 ps) f1 g1 f g (∀ x, x < i → ∀ y, y < n → Chk n f1 g1 x y)) ⟨_, _, _, _, f1, g1, rfl, t, leq.refl _ _, leq.refl _ _, u1, fun _ x hx => absurd hx (Nat.not_lt_zero x)⟩ (fun i σ' H' _ hP => ?_) (fun x v σ' H' hv hP => ?_) fun σ' H' hP => ?_⟩
        · obtain ⟨_, _, _, _, _, _, _, t, _⟩ := hP
          exact .of (t.nl _ rfl).1
        · obtain ⟨hx, rfl⟩ := rg_at hv
          obtain ⟨y2, y3, y8, y9, f, g, rfl, t, i1⟩ := hP
          have hN := (t.nl _ rfl).1
          refine ⟨_, rfl, N, rfl, ⟨_, .of hN⟩, for_list (K := K) (xs := rgV 0 n) (fun j σ' H' => ∃ y3 y8 y9 f g, σ' = [some (.ref a), some (.ref ax), some (.int (x : Nat)), y3, some (.ref A), some (.ref B), y6, some (.ref N), y8, y9] ∧ Two H H' A B rs qs N (some (.lst (rgV 0 n))) n f g ∧ In n (f0 n ps) (g0 ps) f1 g1 f g ((∀ x', x' < x → ∀ y, y < n → Chk n f1 g1 x' y) ∧ ∀ y, y < j → Chk n f1 g1 x y)) ⟨_, _, _, f, g, rfl, t, i1.mono fun d => ⟨d, fun y hy => absurd hy (Nat.not_lt_zero y)⟩⟩ (fun i σ' H' _ hP => ?_) (fun y v σ' H' hv hP => ?_) fun σ' H' hP => ?_⟩
          · obtain ⟨_, _, _, _, _, _, t, _⟩ := hP
            exact .of (t.nl _ rfl).1
          · obtain ⟨hy, rfl⟩ := rg_at hv
            obtain ⟨y3, y8, y9, f, g, rfl, t, i1⟩ := hP
            refine ⟨fun σ' H' => ∃ y8 y9 f g, σ' = [some (.ref a), some (.ref ax), some (.int (x : Nat)), some (.int (y : Nat)), some (.ref A), some (.ref B), y6, some (.ref N), y8, y9] ∧ Two H H' A B rs qs N (some (.lst (rgV 0 n))) n f g ∧ In n (f0 n ps) (g0 ps) f1 g1 f g (((∀ x', x' < x → ∀ y, y < n → Chk n f1 g1 x' y) ∧ ∀ y', y' < y → Chk n f1 g1 x y') ∧ C12 f1 g1 x y), ?_, ?_⟩
            · refine mat_ix (K := K) t.ma.dp hy hx rfl rfl rfl ⟨_, rfl, ?_⟩
              cases q1 : f y x with
              | true =>
                refine iteT ?_
                dsimp only [tSeq, tAsg, tC]
                refine set_at (K := K) t.mb hx hy rfl (fun Q q => ⟨_, rfl, q⟩) (fun Q q => ⟨_, rfl, q⟩) fun r er => ?_
                have t2 := t.setB (b := y) er
                have i2 : In n (f0 n ps) (g0 ps) f1 g1 f (setT g x y) (((∀ x', x' < x → ∀ y, y < n → Chk n f1 g1 x' y) ∧ ∀ y', y' < y → Chk n f1 g1 x y') ∧ (f1 y x = true → g1 x y = true)) :=
                  i1.setB hx hy (fun f' g' c h1 h2 => c.up x y hx hy (h1 y x hy hx q1)) fun d e => ⟨d, fun _ => e⟩
                refine mat_ix (K := K) t2.mb.dp hy hx rfl rfl rfl ⟨_, rfl, ?_⟩
                cases q2 : setT g x y y x with
                | true =>
                  refine iteT ?_
                  dsimp only [tAsg, tC]
                  refine set_at (K := K) t2.ma hx hy rfl (fun Q q => ⟨_, rfl, q⟩) (fun Q q => ⟨_, rfl, q⟩) fun r er => ?_
                  exact ⟨_, _, _, _, rfl, t2.setA (b := y) er, i2.setA hx hy (fun f' g' c h1 h2 => c.an x y hx hy (h1 y x hy hx q1) (h2 y x hy hx q2)) fun d e => ⟨d.1, d.2, fun _ _ => e⟩⟩
                | false =>
                  exact iteF ⟨_, _, _, _, rfl, t2, i2.skip fun e d => ⟨d.1, d.2, fun _ h2 => by
                    have := i2.lg y x hy hx h2
                    rw [q2] at this
                    cases this⟩⟩
              | false =>
                refine iteF ⟨_, _, _, _, rfl, t, i1.skip fun e d => ⟨d, fun h => ?_, fun h _ => ?_⟩⟩
                · have := i1.lf y x hy hx h
                  rw [q1] at this
                  cases this
                · have := i1.lf y x hy hx h
                  rw [q1] at this
                  cases this
            · rintro _ H' ⟨y8, y9, f, g, rfl, t, i1⟩
              have hN := (t.nl _ rfl).1
              refine ⟨_, rfl, N, rfl, ⟨_, .of hN⟩, for_list (K := K) (xs := rgV 0 n) (fun k σ' H' => ∃ y8 y9 f g, σ' = [some (.ref a), some (.ref ax), some (.int (x : Nat)), some (.int (y : Nat)), some (.ref A), some (.ref B), y6, some (.ref N), y8, y9] ∧ Two H H' A B rs qs N (some (.lst (rgV 0 n))) n f g ∧ In n (f0 n ps) (g0 ps) f1 g1 f g ((((∀ x', x' < x → ∀ y, y < n → Chk n f1 g1 x' y) ∧ ∀ y', y' < y → Chk n f1 g1 x y') ∧ C12 f1 g1 x y) ∧ ∀ z, z < k → C34 f1 g1 x y z)) ⟨_, _, f, g, rfl, t, i1.mono fun d => ⟨d, fun y hy => absurd hy (Nat.not_lt_zero y)⟩⟩ (fun i σ' H' _ hP => ?_) (fun z v σ' H' hv hP => ?_) fun σ' H' hP => ?_⟩
              · obtain ⟨_, _, _, _, _, t, _⟩ := hP
                exact .of (t.nl _ rfl).1
              · obtain ⟨hz, rfl⟩ := rg_at hv
                obtain ⟨y8, y9, f, g, rfl, t, i1⟩ := hP
                refine ⟨fun σ' H' => ∃ y8 f g, σ' = [some (.ref a), some (.ref ax), some (.int (x : Nat)), some (.int (y : Nat)), some (.ref A), some (.ref B), y6, some (.ref N), y8, some (.int (z : Nat))] ∧ Two H H' A B rs qs N (some (.lst (rgV 0 n))) n f g ∧ In n (f0 n ps) (g0 ps) f1 g1 f g (((((∀ x', x' < x → ∀ y, y < n → Chk n f1 g1 x' y) ∧ ∀ y', y' < y → Chk n f1 g1 x y') ∧ C12 f1 g1 x y) ∧ ∀ z', z' < z → C34 f1 g1 x y z') ∧ (f1 x y = true → f1 y z = true → f1 x z = true)), ?_, ?_⟩
                · refine mat_ix (K := K) t.ma.dp hx hy rfl rfl rfl ⟨_, rfl, ?_⟩
                  cases q1 : f x y with
                  | true =>
                    refine iteT (mat_ix (K := K) t.ma.dp hy hz rfl rfl rfl ⟨_, rfl, ?_⟩)
                    cases q2 : f y z with
                    | true =>
                      refine iteT ?_
                      dsimp only [tAsg, tC]
                      refine set_at (K := K) t.ma hx hz rfl (fun Q q => ⟨_, rfl, q⟩) (fun Q q => ⟨_, rfl, q⟩) fun r er => ?_
                      exact ⟨_, _, _, rfl, t.setA (b := z) er, i1.setA hx hz (fun f' g' c h1 h2 => c.tr x y z hx hy hz (h1 x y hx hy q1) (h1 y z hy hz q2)) fun d e => ⟨d, fun _ _ => e⟩⟩
                    | false =>
                      exact iteF ⟨_, _, _, rfl, t, i1.skip fun e d => ⟨d, fun _ h => by
                        have := i1.lf y z hy hz h
                        rw [q2] at this
                        cases this⟩⟩
                  | false =>
                    exact iteF (iteF ⟨_, _, _, rfl, t, i1.skip fun e d => ⟨d, fun h _ => by
                      have := i1.lf x y hx hy h
                      rw [q1] at this
                      cases this⟩⟩)
                · rintro _ H' ⟨y8, f, g, rfl, t, i1⟩
                  have fin : ∀ (f g : Nat → Nat → Bool), In n (f0 n ps) (g0 ps) f1 g1 f g ((((((∀ x', x' < x → ∀ y, y < n → Chk n f1 g1 x' y) ∧ ∀ y', y' < y → Chk n f1 g1 x y') ∧ C12 f1 g1 x y) ∧ ∀ z', z' < z → C34 f1 g1 x y z') ∧ (f1 x y = true → f1 y z = true → f1 x z = true)) ∧ (g1 x y = true → g1 y z = true → g1 x z = true)) →
                      In n (f0 n ps) (g0 ps) f1 g1 f g ((((∀ x', x' < x → ∀ y, y < n → Chk n f1 g1 x' y) ∧ ∀ y', y' < y → Chk n f1 g1 x y') ∧ C12 f1 g1 x y) ∧ ∀ z', z' < z + 1 → C34 f1 g1 x y z') := fun f g i => i.mono fun d => ⟨d.1.1.1, fun z' hz' => by
                    rcases Nat.lt_succ_iff_lt_or_eq.mp hz' with h | h
                    · exact d.1.1.2 z' h
                    · rw [h]
                      exact ⟨d.1.2, d.2⟩⟩
                  refine mat_ix (K := K) t.mb.dp hx hy rfl rfl rfl ⟨_, rfl, ?_⟩
                  cases q1 : g x y with
                  | true =>
                    refine iteT (mat_ix (K := K) t.mb.dp hy hz rfl rfl rfl ⟨_, rfl, ?_⟩)
                    cases q2 : g y z with
                    | true =>
                      refine iteT ?_
                      dsimp only [tAsg, tC]
                      refine set_at (K := K) t.mb hx hz rfl (fun Q q => ⟨_, rfl, q⟩) (fun Q q => ⟨_, rfl, q⟩) fun r er => ?_
                      exact ⟨_, _, _, _, rfl, t.setB (b := z) er, fin _ _ (i1.setB hx hz (fun f' g' c h1 h2 => c.tg x y z hx hy hz (h2 x y hx hy q1) (h2 y z hy hz q2)) fun d e => ⟨d, fun _ _ => e⟩)⟩
                    | false =>
                      exact iteF ⟨_, _, _, _, rfl, t, fin _ _ (i1.skip fun e d => ⟨d, fun _ h => by
                        have := i1.lg y z hy hz h
                        rw [q2] at this
                        cases this⟩)⟩
                  | false =>
                    exact iteF (iteF ⟨_, _, _, _, rfl, t, fin _ _ (i1.skip fun e d => ⟨d, fun h _ => by
                      have := i1.lg x y hx hy h
                      rw [q1] at this
                      cases this⟩)⟩)
              · obtain ⟨y8, y9, f, g, rfl, t, i1⟩ := hP
                rw [rg_len] at i1
                exact ⟨_, _, _, _, _, rfl, t, i1.mono fun d => ⟨d.1.1.1, fun y' hy' => by
                  rcases Nat.lt_succ_iff_lt_or_eq.mp hy' with h | h
                  · exact d.1.1.2 y' h
                  · rw [h]
                    exact ⟨d.1.2, d.2⟩⟩⟩
          · obtain ⟨y3, y8, y9, f, g, rfl, t, i1⟩ := hP
            rw [rg_len] at i1
            exact ⟨_, _, _, _, _, _, rfl, t, i1.mono fun d x' hx' => by
              rcases Nat.lt_succ_iff_lt_or_eq.mp hx' with h | h
              · exact d.1 x' h
              · rw [h]
                exact d.2⟩
        · obtain ⟨y2, y3, y8, y9, f, g, rfl, t, i1⟩ := hP
          rw [rg_len] at i1
          exact ⟨_, _, _, _, _, _, rfl, t, i1.un, i1.turn u1 hc⟩
      · obtain ⟨y2, y3, y8, y9, f, g, rfl, t, un, hc⟩ := hP
        have cl : Closed n f g := hc.elim id fun h => by omega
        refine ⟨_, rfl, _, rfl, by show 2 ≤ sizeLine; decide, fun r nr => ?_⟩
        have s9 := same_upd (o := .tup [.ref A, .ref B]) nr
        exact k _ _ f g (t.same.trans s9) (.tup (.of upd_same) (.cons (keepD s9 _ _ t.ma.dp) (.cons (keepD s9 _ _ t.mb.dp) .nil))) ⟨un, cl⟩
end
/-! ### the pairs that the law tells -/
def Ps (n : Nat) (p : Nat → Nat → Bool) : List (Nat × Nat) := (List.range n).flatMap fun x => ((List.range n).filter (p x)).map fun y => (x, y)
def prq (q : Nat × Nat) : PyData := pr q.1 q.2
theorem prsD_ps (n : Nat) (p : Nat → Nat → Bool) : prsD n p = (Ps n p).map prq := by
  unfold prsD prsTo Ps prsRow
  rw [List.map_flatMap]
  congr 1
  funext x
  rw [List.map_map]
  rfl
def nq (x y : Nat) : Bool := decide (x ≠ y)
theorem ps_filter (n : Nat) (f : Nat → Nat → Bool) : (Ps n nq).filter (fun q => f q.1 q.2) = Ps n (apart f) := by
  unfold Ps
  rw [List.filter_flatMap]
  congr 1
  funext x
  rw [List.filter_map, List.filter_filter]
  congr 1
  apply List.filter_congr
  intro y _
  show (f x y && nq x y) = apart f x y
  unfold apart nq
  rw [Bool.and_comm]
theorem ps_lt {n : Nat} {p : Nat → Nat → Bool} {q : Nat × Nat} (h : q ∈ Ps n p) : q.1 < n ∧ q.2 < n := by
  unfold Ps at h
  rw [List.mem_flatMap] at h
  obtain ⟨x, hx, h⟩ := h
  rw [List.mem_map] at h
  obtain ⟨y, hy, rfl⟩ := h
  exact ⟨List.mem_range.mp hx, List.mem_range.mp (List.mem_filter.mp hy).1⟩
theorem ps_len (n : Nat) (p : Nat → Nat → Bool) : ∀ {l : List Nat}, (l.flatMap fun x => ((List.range n).filter (p x)).map fun y => (x, y)).length ≤ l.length * n
  | [] => Nat.zero_le _
  | x :: l => by
    have ih := ps_len n p (l := l)
    have h : ((List.range n).filter (p x)).length ≤ n := by
      have := List.length_filter_le (p x) (List.range n)
      rw [List.length_range] at this
      exact this
    rw [List.flatMap_cons, List.length_append, List.length_cons, Nat.add_mul, List.length_map]
    omega
theorem ps_len16 {n : Nat} (hn : n ≤ 4) (p : Nat → Nat → Bool) : (Ps n p).length ≤ 16 := by
  have h := ps_len n p (l := List.range n)
  rw [List.length_range] at h
  have : n * n ≤ 4 * 4 := Nat.mul_le_mul hn hn
  exact Nat.le_trans h this
theorem ps_congr {n : Nat} {p q : Nat → Nat → Bool} (h : ∀ x y, x < n → y < n → p x y = q x y) : prsD n (apart p) = prsD n (apart q) := by
  rw [prsD_ps, prsD_ps, ← ps_filter, ← ps_filter]
  congr 1
  apply List.filter_congr
  intro z hz
  obtain ⟨h1, h2⟩ := ps_lt hz
  exact h z.1 z.2 h1 h2
theorem prs_map : ∀ l : List (Nat × Nat), Prs (l.map prq) := fun l d hd => by
  obtain ⟨q, _, rfl⟩ := List.mem_map.mp hd
  exact ⟨_, _, rfl⟩
theorem dep_prs {n : Nat} (hn : n ≤ 4) (p : Nat → Nat → Bool) : dep 3 (.tuple (prsD n p)) = true := by
  have h1 : (prsD n p).length ≤ 1000 := by
    rw [prsD_ps, List.length_map]
    exact Nat.le_trans (ps_len16 hn p) (by decide)
  show (decide ((prsD n p).length ≤ 1000) && (prsD n p).all (dep 2)) = true
  rw [decide_eq_true h1, Bool.true_and, List.all_eq_true, prsD_ps]
  intro d hd
  obtain ⟨q, _, rfl⟩ := List.mem_map.mp hd
  simp [prq, pr, dep]
theorem inW_mem {a b : List PyData} (h : ∀ e, e ∈ a ↔ e ∈ b) (d : PyData) : inW a d = inW b d := by
  unfold inW
  rw [Bool.eq_iff_iff, List.any_eq_true, List.any_eq_true]
  constructor
  · rintro ⟨e, he, q⟩
    exact ⟨e, (h e).mp he, q⟩
  · rintro ⟨e, he, q⟩
    exact ⟨e, (h e).mpr he, q⟩
theorem f0_mem {n : Nat} {ps os : List PyData} (h : ∀ d, d ∈ os ↔ d ∈ ps) (x y : Nat) : f0 n os x y = f0 n ps x y := by
  refine inW_mem (fun e => ?_) _
  unfold parts
  rw [List.mem_append, List.mem_append, List.mem_flatMap, List.mem_flatMap]
  constructor
  · rintro (q | ⟨d, hd, q⟩)
    · exact .inl q
    · exact .inr ⟨d, (h d).mp hd, q⟩
  · rintro (q | ⟨d, hd, q⟩)
    · exact .inl q
    · exact .inr ⟨d, (h d).mpr hd, q⟩
theorem g0_mem {ps os : List PyData} (h : ∀ d, d ∈ os ↔ d ∈ ps) (x y : Nat) : g0 os x y = g0 ps x y := by
  refine inW_mem (fun e => ?_) _
  unfold counts
  rw [List.mem_flatMap, List.mem_flatMap]
  constructor
  · rintro ⟨d, hd, q⟩
    exact ⟨d, (h d).mp hd, q⟩
  · rintro ⟨d, hd, q⟩
    exact ⟨d, (h d).mpr hd, q⟩
section
variable {K : PySem.W.Frag}
theorem DpAll.rev {H : Hp} : ∀ {xs : List V} {ds : List PyData}, DpAll K H xs ds → DpAll K H xs.reverse ds.reverse
  | _, _, .nil => .nil
  | _, _, .cons h t => by
    rw [List.reverse_cons, List.reverse_cons]
    exact DpAll.append (DpAll.rev t) (.cons h .nil)
theorem de_rev {σ : St} {H : Hp} {te : TE} {ds : List PyData} (h : DE K σ H te (.tuple ds)) : DE K σ H (GXX.tRevT K te) (.tuple ds.reverse) := fun H1 s Q q =>
  h H1 s _ fun x H2 s2 hx => by
    obtain ⟨a, xs, rfl, ha, hxs⟩ := dp_tup hx
    exact ⟨a, xs, rfl, ha, fun p np => q _ _ (s2.trans (same_upd np)) (.tup (.of upd_same) (keepDs (same_upd np) _ _ (DpAll.rev hxs)))⟩
/-- one row of the pairs -/
theorem prow_lc {σ : St} {H1 : Hp} {j : Nat} {te : TE} {tt : TT} {n x : Nat} {wi : TI} {Q : VK} (hn : n ≤ 900)
    (hw : ∀ R : It → Hp → Prop, R (Itr 0 n) H1 → wi σ H1 R)
    (hwp : ∀ v, wipe ((wipe σ [j]).set j v) [j] = wipe σ [j])
    (ht : ∀ y H, y < n → Same H1 H → ∀ R : Bool → Hp → Prop, R (nq x y) H → tt ((wipe σ [j]).set j (some (.int (y : Nat)))) H R)
    (he : ∀ y H, y < n → Same H1 H → ∀ R : VK, (∀ q, H q = none → R (.ref q) (upd H q (.tup [.int (x : Nat), .int (y : Nat)]))) → te ((wipe σ [j]).set j (some (.int (y : Nat)))) H R)
    (k : ∀ D H2 acc, H1 D = none → Same H1 H2 → H2 D = some (.lst acc) → DpAll K H2 acc (prsRow n (nq x) x) → acc.length ≤ n → Q (.ref D) H2) : tLc wi (gName j) tt te [j] σ H1 Q := by
  refine hw _ fun D nD => lc_range (lo := 0) (n := n) (fun i H => Same H1 H ∧ ∃ acc, H D = some (.lst acc) ∧ acc.length ≤ i ∧ DpAll K H acc (prsRow i (nq x) x)) ⟨same_upd nD, [], upd_same, Nat.zero_le _, .nil⟩ (fun i H hi hP => ?_) fun H hP => ?_
  · obtain ⟨s, acc, hD, la, ha⟩ := hP
    rw [Int.zero_add]
    refine ⟨hwp _, ht i H hi s _ ?_⟩
    by_cases q : nq x i = true
    · rw [if_pos q]
      refine he i H hi s _ fun r nr => ?_
      have s3 := same_upd (o := .tup [.int (x : Nat), .int (i : Nat)]) nr
      refine ⟨acc, s3.at hD, small1000 (by omega), same_fresh (s.trans s3) nD, acc ++ [.ref r], upd_same, by rw [List.length_append]; show acc.length + 1 ≤ _; omega, ?_⟩
      rw [prsRow_succ, if_pos q]
      exact snoc_dp (s3.at hD) (keepDs s3 _ _ ha) (.tup (.of upd_same) (.cons (.int _) (.cons (.int _) .nil))) (noLs_row _ _ _) (noL_pr x i)
    · rw [if_neg q]
      refine ⟨s, acc, hD, by omega, ?_⟩
      rw [prsRow_succ, if_neg q, List.append_nil]
      exact ha
  · obtain ⟨s, acc, hD, la, ha⟩ := hP
    exact k D H acc nD s hD ha la
/-- the pairs that stand in a table -/
theorem psel_lc {σ : St} {H1 : Hp} {te : TE} {tt : TT} {n L : Nat} {pl : Addr} {xs : List V} {f : Nat → Nat → Bool} {i j : Nat} {ip : Nat} {Q : VK} (hl : L ≤ 900) (ep : σ[ip]? = some (some (.ref pl))) (hp : H1 pl = some (.lst xs)) (hx : DpAll K H1 xs ((Ps n nq).map prq)) (lx : xs.length ≤ L)
    (hg : ∀ (x y : Nat) (v : V) H (R : St → Hp → Prop), Dp K H v (pr x y) → R (((wipe σ [i, j]).set i (some (.int (x : Nat)))).set j (some (.int (y : Nat)))) H → gTup K 2 (gCons (gName i) (gCons (gName j) gNil)) v (wipe σ [i, j]) H R)
    (hwp : ∀ u v, wipe (((wipe σ [i, j]).set i u).set j v) [i, j] = wipe σ [i, j])
    (ht : ∀ x y H, x < n → y < n → Same H1 H → ∀ R : Bool → Hp → Prop, R (f x y) H → tt (((wipe σ [i, j]).set i (some (.int (x : Nat)))).set j (some (.int (y : Nat)))) H R)
    (he : ∀ x y H, x < n → y < n → Same H1 H → ∀ R : VK, (∀ q, H q = none → R (.ref q) (upd H q (.tup [.int (x : Nat), .int (y : Nat)]))) → te (((wipe σ [i, j]).set i (some (.int (x : Nat)))).set j (some (.int (y : Nat)))) H R)
    (k : ∀ D H2 acc, Same H1 H2 → H2 D = some (.lst acc) → DpAll K H2 acc (prsD n (apart f)) → Q (.ref D) H2) : tLc (iList K (tVar ip)) (gTup K 2 (gCons (gName i) (gCons (gName j) gNil))) tt te [i, j] σ H1 Q := by
  refine ⟨_, ep, pl, rfl, ⟨_, .of hp⟩, fun D nD => lc_list (K := K) (xs := xs) (fun m H => Same H1 H ∧ ∃ acc, H D = some (.lst acc) ∧ acc.length ≤ m ∧ DpAll K H acc ((((Ps n nq).take m).filter fun q => f q.1 q.2).map prq)) ⟨same_upd nD, [], upd_same, Nat.zero_le _, .nil⟩ (fun m H _ hP => .of (hP.1.at hp)) (fun m v H hm hP => ?_) fun H hP => ?_⟩
  · obtain ⟨s, acc, hD, la, ha⟩ := hP
    obtain ⟨d, ed, dd⟩ := DpAll.mem hx hm
    rw [List.getElem?_map] at ed
    cases eq : (Ps n nq)[m]? with
    | none => rw [eq] at ed; cases ed
    | some q =>
      rw [eq] at ed
      cases ed
      obtain ⟨h1, h2⟩ := ps_lt (List.mem_of_getElem? eq)
      have hm2 : m < xs.length := (List.getElem?_eq_some_iff.mp hm).1
      refine hg q.1 q.2 v H _ (keepD s _ _ dd) ⟨hwp _ _, ht q.1 q.2 H h1 h2 s _ ?_⟩
      have tk : ((Ps n nq).take (m + 1)).filter (fun q => f q.1 q.2) = ((Ps n nq).take m).filter (fun q => f q.1 q.2) ++ (if f q.1 q.2 = true then [q] else []) := by
        rw [List.take_add_one, eq, List.filter_append]
        congr 1
        show List.filter _ [q] = _
        by_cases z : f q.1 q.2 = true
        · rw [if_pos z, List.filter_cons_of_pos (by exact z)]
          rfl
        · rw [if_neg z, List.filter_cons_of_neg (by exact z)]
          rfl
      by_cases z : f q.1 q.2 = true
      · rw [if_pos z]
        rw [if_pos z] at tk
        refine he q.1 q.2 H h1 h2 s _ fun r nr => ?_
        have s3 := same_upd (o := .tup [.int (q.1 : Nat), .int (q.2 : Nat)]) nr
        refine ⟨acc, s3.at hD, small1000 (by omega), same_fresh (s.trans s3) nD, acc ++ [.ref r], upd_same, by rw [List.length_append]; show acc.length + 1 ≤ _; omega, ?_⟩
        rw [tk, List.map_append]
        exact snoc_dp (s3.at hD) (keepDs s3 _ _ ha) (.tup (.of upd_same) (.cons (.int _) (.cons (.int _) .nil))) (prs_map _).noLs (noL_pr q.1 q.2)
      · rw [if_neg z]
        rw [if_neg z, List.append_nil] at tk
        refine ⟨s, acc, hD, by omega, ?_⟩
        rw [tk]
        exact ha
  · obtain ⟨s, acc, hD, la, ha⟩ := hP
    refine k D H acc s hD ?_
    have e := DpAll.length hx
    rw [List.length_map] at e
    rw [e, List.take_length, ps_filter] at ha
    rw [prsD_ps]
    exact ha
end
section
variable {P : Program} {w : World} {K : PySem.W.Frag} {mg : Str → Option Value} {base : Heap}
def splaw (K : PySem.W.Frag) (ps : List Addr) : Sp := fun vs H Q _ => ∃ (a : Addr) (ns : List Int), vs = [.ref a] ∧ SqL K H a (ns.map V.int) ∧ ns.length ≤ 63 ∧ (∀ P ∈ ps, GxR.TabG H P) ∧ ∀ H', Q (.bl true) H'
theorem safe_pr (q : Nat × Nat) : safe (prq q) = true := by simp [prq, pr, safe]
theorem safe_prs (n : Nat) (p : Nat → Nat → Bool) : safe (.tuple (prsD n p)) = true := by
  rw [prsD_ps]
  unfold safe
  refine safe_all.mpr fun d hd => ?_
  obtain ⟨q, _, rfl⟩ := List.mem_map.mp hd
  exact safe_pr q
theorem nq_eq (x y : Nat) : (!decide (V.int (x : Nat) = V.int (y : Nat))) = nq x y := by
  rw [eqint]
  unfold nq
  by_cases h : x = y
  · rw [decide_eq_true h, decide_eq_false (show ¬ x ≠ y from fun z => z h)]
    rfl
  · rw [decide_eq_false h, decide_eq_true h]
    rfl
theorem gtup2 {σ : St} {H : Hp} {v : V} {x y i j : Nat} {R : St → Hp → Prop} (h : Dp K H v (pr x y)) (k : R ((σ.set i (some (.int (x : Nat)))).set j (some (.int (y : Nat)))) H) : gTup K 2 (gCons (gName i) (gCons (gName j) gNil)) v σ H R := by
  obtain ⟨b, zs, rfl, hb, hz⟩ := dp_tup h
  obtain ⟨v1, v2, rfl, h1, h2⟩ := da2 hz
  cases h1
  cases h2
  exact ⟨b, _, rfl, hb, rfl, _, _, rfl, _, _, rfl, rfl, k⟩
theorem cut_to' {xs : List V} {k : Nat} : cutV xs none (some (k : Int)) = xs.take k := by
  unfold cutV
  rw [HT.sIx_nat, HT.sIx_none, List.drop_zero, Nat.sub_zero]
  by_cases h : k ≤ xs.length
  · rw [Nat.min_eq_left h]
  · rw [Nat.min_eq_right (by omega), List.take_length, List.take_of_length_le (by omega)]
theorem de_to1 {σ : St} {H : Hp} {te tq : TE} {ds : List PyData} {z : Int} {k : Nat} (hz : z = (k : Int)) (h1 : DE K σ H te (.tuple ds)) (h2 : DE K σ H tq (.int z)) : DE K σ H (tSl (rSlA K) te tNoPart (tPart tq)) (.tuple (ds.take k)) := fun H1 s Q q =>
  h1 H1 s _ fun x H2 s2 hx => by
    dsimp only [tNoPart]
    refine h2 H2 (s.trans s2) _ fun y H3 s3 hy => ?_
    have ey := dp_int hy
    subst ey
    obtain ⟨a, xs, rfl, ha, hxs⟩ := dp_tup (keepD s3 _ _ hx)
    refine ⟨z, rfl, slA_ok ha fun t H4 s4 ht => q _ _ ((s2.trans s3).trans s4) (.tup ht ?_)⟩
    rw [hz, cut_to']
    exact keepDs s4 _ _ (DpAll.take k hxs)
theorem ok_law {f : Addr} {fd : FuncData} (F : Fun K "law" "law" slaw f fd) (T : Txt K mg) (TB_are_premises : GxR.TabB base mg T.cc_are_premises T.pp_are_premises) (TB__leads : GxR.TabB base mg T.cc__leads T.pp__leads) : FnOk P w K mg base CX0 9 f fd ["script"] (splaw K [T.pp_are_premises, T.pp__leads]) := by
  have G__law_stream := ok__law_stream (P := P) (w := w) (base := base) T
  have G__law_signature := ok__law_signature (P := P) (w := w) (base := base) T
  have G__law_premises := ok__law_premises (P := P) (w := w) (base := base) T
  have G__law_sub := ok__law_sub (P := P) (w := w) (base := base) T
  have G__law_equal := ok__law_equal (P := P) (w := w) (base := base) T 3
  have G_subsets := ok_subsets (P := P) (w := w) (base := base) T TB_are_premises TB__leads
  have G_at_least := ok_at_least (P := P) (w := w) (base := base) T TB_are_premises TB__leads
  refine F.ok sclaw (fun vs H Q E h => ?_) (fun cdv A outer s H vs Q E hr h => ?_)
  · obtain ⟨a, ns, rfl, _⟩ := h
    rfl
  · obtain ⟨a, ns, rfl, hS, _, htab, hQ⟩ := h
    have tA0 := htab _ List.mem_cons_self
    have tL0 := htab T.pp__leads (by simp)
    refine ⟨_, (pss_cons (ps_set (i := 1) sclaw.nd rfl (Or.inl rfl) (pe_call G__law_stream (hr.mono (by decide)) (by rfl) T.g__law_stream T.F__law_stream.kp T.b__law_stream .nil pass0 (pa_cons (pv 0) pa_nil)))
      (pss_cons (ps_for PassesOwn.never rfl (pi_list (pe_lst (pa_cons pe_int (pa_cons pe_int pa_nil)))) (pg_name (i := 2) sclaw.nd rfl (Or.inl rfl)) (pss_cons (ps_set (i := 3) sclaw.nd rfl (Or.inl rfl) (pe_call G__law_signature (hr.mono (by decide)) (by rfl) T.g__law_signature T.F__law_signature.kp T.b__law_signature .nil pass0 (pa_cons (pv 1) (pa_cons pe_int pa_nil))))
      (pss_cons (ps_set (i := 4) sclaw.nd rfl (Or.inl rfl) (pe_call G__law_premises (hr.mono (by decide)) (by rfl) T.g__law_premises T.F__law_premises.kp T.b__law_premises .nil pass0 (pa_cons (pv 1) (pa_cons (pv 3) (pa_cons (pv 2) pa_nil)))))
      (pss_cons (ps_asg (pe_call G__law_sub (hr.mono (by decide)) (by rfl) T.g__law_sub T.F__law_sub.kp T.b__law_sub .nil pass0 (pa_cons (pv 3) (pa_cons (pv 4) pa_nil))) (pg_tup rfl (pgs_cons (pg_name (i := 5) sclaw.nd rfl (Or.inr rfl)) (pgs_cons (pg_name (i := 6) sclaw.nd rfl (Or.inr rfl)) pgs_nil))))
      (pss_cons (ps_set (i := 7) sclaw.nd rfl (Or.inl rfl) (pe_lst pa_nil))
      (pss_cons (ps_for PassesOwn.never rfl (pi_range1 (by rfl) T.n_range (pa_cons (pe_ix ix_tup (pv 3) pe_int (fun _ _ => rfl)) pa_nil)) (pg_name (i := 8) sclaw.nd rfl (Or.inr rfl)) (pss_one (ps_set (i := 7) sclaw.nd rfl (Or.inl rfl) (pe_op op_cat (pv 7) (pe_lc (own := [("y", 12)]) (g := gName 12) rfl sclaw.nd (pi_range1 (by rfl) T.n_range (pa_cons (pe_ix ix_tup (pv 3) pe_int (fun _ _ => rfl)) pa_nil)) (blkOk_by (own := [("y", 12)]) (N := Nlaw) (sc := defScope slaw) (by decide +kernel)) (fun _ _ _ _ _ => pg_name (i := 12) sclaw.nd rfl (Or.inl rfl)) (fun _ _ _ _ _ => pts_one (pt_cmpR op_ne (pv 8) (pv 12) (nomark _))) (fun _ _ _ _ _ => (pe_tup (pa_cons (pv 8) (pa_cons (pv 12) pa_nil)))))))))
      (pss_cons (ps_set (i := 9) sclaw.nd rfl (Or.inl rfl) (pe_callTy call_tuple_of (by rfl) T.n_tuple (by decide +kernel) (pa_cons (pe_lc (own := [("x", 8), ("y", 12)]) (g := gTup K 2 (gCons (gName 8) (gCons (gName 12) (gNil)))) rfl sclaw.nd (pi_list (pv 7)) (blkOk_by (own := [("x", 8), ("y", 12)]) (N := Nlaw) (sc := defScope slaw) (by decide +kernel)) (fun _ _ _ _ _ => pg_tup rfl (pgs_cons (pg_name (i := 8) sclaw.nd rfl (Or.inl rfl)) (pgs_cons (pg_name (i := 12) sclaw.nd rfl (Or.inl rfl)) pgs_nil))) (fun _ _ _ _ _ => pts_one (pt_val (pe_ix (kq_ixL K rfl) (pe_ix (kq_ixL K rfl) (pv 5) (pv 8) (fun _ _ => rfl)) (pv 12) (fun _ _ => rfl)))) (fun _ _ _ _ _ => (pe_tup (pa_cons (pv 8) (pa_cons (pv 12) pa_nil))))) pa_nil)))
      (pss_cons (ps_set (i := 10) sclaw.nd rfl (Or.inl rfl) (pe_callTy call_tuple_of (by rfl) T.n_tuple (by decide +kernel) (pa_cons (pe_lc (own := [("x", 8), ("y", 12)]) (g := gTup K 2 (gCons (gName 8) (gCons (gName 12) (gNil)))) rfl sclaw.nd (pi_list (pv 7)) (blkOk_by (own := [("x", 8), ("y", 12)]) (N := Nlaw) (sc := defScope slaw) (by decide +kernel)) (fun _ _ _ _ _ => pg_tup rfl (pgs_cons (pg_name (i := 8) sclaw.nd rfl (Or.inl rfl)) (pgs_cons (pg_name (i := 12) sclaw.nd rfl (Or.inl rfl)) pgs_nil))) (fun _ _ _ _ _ => pts_one (pt_val (pe_ix (kq_ixL K rfl) (pe_ix (kq_ixL K rfl) (pv 6) (pv 8) (fun _ _ => rfl)) (pv 12) (fun _ _ => rfl)))) (fun _ _ _ _ _ => (pe_tup (pa_cons (pv 8) (pa_cons (pv 12) pa_nil))))) pa_nil)))
      (pss_cons (ps_if (PW.pt (pw_or (pt_not (pt_val (pe_call G__law_equal (hr.mono (by decide)) (by rfl) T.g__law_equal T.F__law_equal.kp T.b__law_equal .nil pass0 (pa_cons (pe_call G_subsets (hr.mono (by decide)) (by rfl) T.g_subsets T.F_subsets.kp T.b_subsets .nil pass0 (pa_cons (pv 3) (pa_cons (pv 4) pa_nil))) (pa_cons (pv 9) pa_nil))))) (pw_or1 (pt_not (pt_val (pe_call G__law_equal (hr.mono (by decide)) (by rfl) T.g__law_equal T.F__law_equal.kp T.b__law_equal .nil pass0 (pa_cons (pe_call G_at_least (hr.mono (by decide)) (by rfl) T.g_at_least T.F_at_least.kp T.b_at_least .nil pass0 (pa_cons (pv 3) (pa_cons (pv 4) pa_nil))) (pa_cons (pv 10) pa_nil)))))))) (pss_one (ps_ret pe_bl)) pss_nil)
      (pss_cons (ps_set (i := 11) sclaw.nd rfl (Or.inl rfl) (GXX.pe_revT (pv 4)))
      (pss_cut (ps_if (pt_cmpR op_lt (pe_callB call_len_seq (by rfl) T.n_len (by decide +kernel) (pa_cons (pv 11) pa_nil)) pe_int (nomark _)) (pss_one (ps_set (i := 11) sclaw.nd rfl (Or.inl rfl) (pe_op op_catA (pv 11) (pe_slice sl_tupA (pv 11) po_none (po_some pe_int))))) pss_nil)
      (pss_one (ps_if (PW.pt (pw_or (pt_not (pt_val (pe_call G__law_equal (hr.mono (by decide)) (by rfl) T.g__law_equal T.F__law_equal.kp T.b__law_equal .nil pass0 (pa_cons (pe_call G_subsets (hr.mono (by decide)) (by rfl) T.g_subsets T.F_subsets.kp T.b_subsets .nil pass0 (pa_cons (pv 3) (pa_cons (pv 11) pa_nil))) (pa_cons (pv 9) pa_nil))))) (pw_or1 (pt_not (pt_val (pe_call G__law_equal (hr.mono (by decide)) (by rfl) T.g__law_equal T.F__law_equal.kp T.b__law_equal .nil pass0 (pa_cons (pe_call G_at_least (hr.mono (by decide)) (by rfl) T.g_at_least T.F_at_least.kp T.b_at_least .nil pass0 (pa_cons (pv 3) (pa_cons (pv 11) pa_nil))) (pa_cons (pv 10) pa_nil)))))))) (pss_one (ps_ret pe_bl)) pss_nil)))))))))))))
      (pss_one (ps_ret pe_bl)))), ?_⟩
    refine ⟨_, rfl, a, ns, rfl, hS, fun H1 p l s1 st1 => ?_⟩
    refine ⟨by show 2 ≤ sizeLine; decide, fun L nL => ⟨L, rfl, ⟨_, .of upd_same⟩, for_list (K := K) (xs := [.int 8, .int 5]) (fun i σ' H' => ∃ y2 y3 y4 y5 y6 y7 y8 y9 y10 y11, σ' = [some (.ref a), some (.ref p), y2, y3, y4, y5, y6, y7, y8, y9, y10, y11, none] ∧ Ext p (upd H1 L (.lst [.int 8, .int 5])) H' ∧ Strm l H' p) ⟨_, _, _, _, _, _, _, _, _, _, rfl, Ext.refl _ _, st1.upd (st1.ne nL).1 (st1.ne nL).2⟩ (fun i σ' H' _ hP => ?_) (fun i v σ' H' hv hP => ?_) fun σ' H' hP => ?_⟩⟩
    · obtain ⟨_, _, _, _, _, _, _, _, _, _, _, e, _⟩ := hP
      have st := st1.upd (o := .lst [.int 8, .int 5]) (st1.ne nL).1 (st1.ne nL).2
      exact e.sqL st (fun l c k z => by simp at z) (.of upd_same)
    · obtain ⟨y2, y3, y4, y5, y6, y7, y8, y9, y10, y11, rfl, eL, st⟩ := hP
      have hk : ∃ kk : Int, v = .int kk ∧ 0 ≤ kk ∧ kk ≤ 8 := by
        rcases i with _ | _ | i
        · cases hv
          exact ⟨8, rfl, by decide, by decide⟩
        · cases hv
          exact ⟨5, rfl, by decide, by decide⟩
        · cases hv
      obtain ⟨kk, rfl, k0, k8⟩ := hk
      have tA : GxR.TabG H' T.pp_are_premises := eL.2 _ ((same_upd nL).2 _ (s1.2 _ tA0))
      have tL : GxR.TabG H' T.pp__leads := eL.2 _ ((same_upd nL).2 _ (s1.2 _ tL0))
      refine ⟨_, rfl, p, l, 4, rfl, st, by decide, by decide, fun H2 sv n m e2 st2 hsig2 n1 n4 m0 m2 => ?_⟩
      have bnd : (1 : Int) ≤ n ∧ (n : Int) ≤ 4 ∧ 0 ≤ m ∧ m ≤ 2 := ⟨by omega, by omega, m0, m2⟩
      refine ⟨_, rfl, _, rfl, _, rfl, p, l, sv, n, m, kk, rfl, st2, hsig2, bnd, k0, k8, fun H3 x ps e3 st3 hx3 hs h8 => ?_⟩
      have hsig3 := e3.sig st2 hsig2
      refine ⟨_, rfl, _, rfl, sv, x, n, m, ps, rfl, hsig3, n4, hx3, hs, fun r H4 f g s4 hr least => ?_⟩
      obtain ⟨ar, ys, rfl, har, hys⟩ := dp_tup hr
      obtain ⟨v1, v2, rfl, h1, h2⟩ := da2 hys
      refine ⟨ar, _, rfl, har, rfl, _, _, rfl, _, _, rfl, rfl, ?_⟩
      obtain ⟨as, rfl, ha4⟩ := hsig3.keep s4
      refine ⟨by show 0 ≤ sizeLine; decide, fun q nq0 => ?_⟩
      have s5 := same_upd (o := .lst []) nq0
      have hq5 : upd H4 q (.lst []) q = some (.lst []) := upd_same
      generalize upd H4 q (.lst []) = H5 at s5 hq5
      have ha5 := s5.sqT ha4
      refine ⟨_, rfl, as, _, _, _, rfl, rfl, ha5, atI_nat (j := 0) rfl, n, rfl, by omega, by omega, for_range (lo := 0) (n := n) (fun i σ' H' => ∃ pl y8 acc, σ' = [some (.ref a), some (.ref p), some (.int kk), some (.ref as), some x, some v1, some v2, some (.ref pl), y8, y9, y10, y11, none] ∧ Same H5 H' ∧ H' pl = some (.lst acc) ∧ acc.length ≤ i * n ∧ DpAll K H' acc (prsTo n i nq)) ⟨q, _, [], rfl, Same.refl _, hq5, Nat.zero_le _, .nil⟩ (fun i σ' H' hi hP => ?_) fun σ' H' hP => ?_⟩
      · obtain ⟨pl, y8, acc, rfl, s6, hpl, la, hacc⟩ := hP
        have lin : i * n ≤ 16 := by
          have : i * n ≤ 4 * 4 := Nat.mul_le_mul (by omega) n4
          exact this
        rw [Int.zero_add]
        refine ⟨_, rfl, prow_lc (K := K) (n := n) (x := i) (by omega) (fun R h => ⟨_, rfl, as, _, _, _, rfl, rfl, s6.sqT ha5, atI_nat (j := 0) rfl, n, rfl, by omega, by omega, h⟩) (fun _ => rfl) (fun y H2 hy s R h => ⟨_, rfl, _, rfl, rfl, _, rfl, by rw [nq_eq]; exact h⟩) (fun y H2 hy s R h => ⟨_, rfl, _, rfl, by show 2 ≤ sizeLine; decide, h⟩) fun D H7 acc2 nD s7 hD hacc2 la2 => ?_⟩
        refine cat_ok (s7.at hpl) hD (small (by omega)) fun r H8 s8 hr => ⟨r, _, acc ++ acc2, rfl, (s6.trans s7).trans s8, hr, ?_, ?_⟩
        · rw [List.length_append, Nat.add_mul]
          omega
        · rw [prsTo_succ]
          exact keepDs s8 _ _ (DpAll.append (keepDs s7 _ _ hacc) hacc2)
      · obtain ⟨pl, y8, acc, rfl, s6, hpl, la, hacc⟩ := hP
        have la : acc.length ≤ 16 := by
          have : n * n ≤ 4 * 4 := Nat.mul_le_mul n4 n4
          omega
        have hacc : DpAll K H' acc ((Ps n nq).map prq) := by
          rw [← prsD_ps]
          exact hacc
        have sx := s4.trans (s5.trans s6)
        have h1' := keepD (s5.trans s6) _ _ h1
        have h2' := keepD (s5.trans s6) _ _ h2
        dsimp only [gName, tSeq, tAsg, tCB]
        refine cons_at (psel_lc (K := K) (n := n) (L := 16) (f := f) (by decide) rfl hpl hacc la (fun x y v H R h k => gtup2 h k) (fun _ _ => rfl) (fun x y H2 hx hy s R h => mat_ix (K := K) (keepD s _ _ h1') hx hy rfl rfl rfl ⟨_, rfl, h⟩) (fun x y H2 hx hy s R h => ⟨_, rfl, _, rfl, by show 2 ≤ sizeLine; decide, h⟩) fun D1 H7 acc1 s7 hD1 hacc1 => ⟨D1, acc1, rfl, .inl ⟨.of hD1, fun t1 nt1 => ?_⟩⟩)
        have st1' := same_upd (o := .tup acc1) nt1
        have hf1 : Dp K (upd H7 t1 (.tup acc1)) (.ref t1) (.tuple (prsD n (apart f))) := .tup (.of upd_same) (keepDs st1' _ _ hacc1)
        generalize upd H7 t1 (.tup acc1) = H8 at st1' hf1
        have s8 := s7.trans st1'
        refine cons_at (psel_lc (K := K) (n := n) (L := 16) (f := g) (by decide) rfl (s8.at hpl) (keepDs s8 _ _ hacc) la (fun x y v H R h k => gtup2 h k) (fun _ _ => rfl) (fun x y H2 hx hy s R h => mat_ix (K := K) (keepD (s8.trans s) _ _ h2') hx hy rfl rfl rfl ⟨_, rfl, h⟩) (fun x y H2 hx hy s R h => ⟨_, rfl, _, rfl, by show 2 ≤ sizeLine; decide, h⟩) fun D2 H9 acc2 s9 hD2 hacc2 => ⟨D2, acc2, rfl, .inl ⟨.of hD2, fun t2 nt2 => ?_⟩⟩)
        have st2' := same_upd (o := .tup acc2) nt2
        have hf2 : Dp K (upd H9 t2 (.tup acc2)) (.ref t2) (.tuple (prsD n (apart g))) := .tup (.of upd_same) (keepDs st2' _ _ hacc2)
        generalize upd H9 t2 (.tup acc2) = HA at st2' hf2
        have sA := s9.trans st2'
        have hf1 := keepD sA _ _ hf1
        have sXA : Same H3 HA := (sx.trans s8).trans sA
        have hxA := keepD sXA _ _ hx3
        have tAA : GxR.TabG HA T.pp_are_premises := sXA.2 _ (e3.2 _ (e2.2 _ tA))
        have tLA : GxR.TabG HA T.pp__leads := sXA.2 _ (e3.2 _ (e2.2 _ tL))
        have sigA : Sig K HA (.ref as) n m := ⟨as, rfl, ((s5.trans s6).trans (s8.trans sA)).sqT ha4⟩
        have bnd5 : 1 ≤ n ∧ n ≤ 4 ∧ 0 ≤ m ∧ m ≤ 2 := ⟨n1, n4, m0, m2⟩
        clear h1 h2 h1' h2' hacc hacc1 hacc2 hpl hq5 hD1 hD2 ha5 ha4 hx3
        refine ⟨_, rfl, _, rfl, .ref as, x, n, m, ps, rfl, sigA, bnd5, hxA, hs, h8, tAA, tLA, fun r1 HB f1 g1 sB le1 hr1 => ?_⟩
        rw [ps_congr (le1.same least (fun _ _ _ _ => rfl) (fun _ _ _ _ => rfl)).1] at hr1
        refine ⟨_, rfl, r1, .ref t1, _, rfl, hr1, keepD sB _ _ hf1, dep_prs n4 _, fun HC sC => ⟨_, rfl, iteF ?_⟩⟩
        have sBC := sB.trans sC
        refine ⟨_, rfl, _, rfl, .ref as, x, n, m, ps, rfl, sigA.keep sBC, bnd5, keepD sBC _ _ hxA, hs, h8, sBC.2 _ tAA, sBC.2 _ tLA, fun r2 HD f2 g2 sD le2 hr2 => ?_⟩
        rw [ps_congr (le2.same least (fun _ _ _ _ => rfl) (fun _ _ _ _ => rfl)).2] at hr2
        refine ⟨_, rfl, r2, .ref t2, _, rfl, hr2, keepD (sBC.trans sD) _ _ hf2, dep_prs n4 _, fun HE sE => ⟨_, rfl, iteF ?_⟩⟩
        have sAE := (sBC.trans sD).trans sE
        have hxE := keepD sAE _ _ hxA
        have hf1E := keepD sAE _ _ hf1
        have hf2E := keepD sAE _ _ hf2
        have sigE := sigA.keep sAE
        dsimp only [tNext, gName, tSeq, tAsg]
        refine de_rev (K := K) (de_var rfl hxE) HE (Same.refl HE) _ fun ov HF sF hov => ?_
        refine ⟨fun σ' H' => ∃ ov os, σ' = [some (.ref a), some (.ref p), some (.int kk), some (.ref as), some x, some v1, some v2, some (.ref pl), y8, some (.ref t1), some (.ref t2), some ov, none] ∧ Same HF H' ∧ Dp K H' ov (.tuple os) ∧ (∀ d, d ∈ os ↔ d ∈ ps) ∧ os.length ≤ 8, ?_, ?_⟩
        · obtain ⟨ao, xo, rfl, hao, hxo⟩ := dp_tup hov
          have lo := DpAll.length hxo
          rw [List.length_reverse] at lo
          refine ⟨_, rfl, ao, xo, rfl, .inr hao, _, _, rfl, rfl, _, rfl, ite2 (fun e => ?_) (fun _ => ⟨_, _, rfl, Same.refl _, hov, fun d => List.mem_reverse, by rw [List.length_reverse]; exact h8⟩)⟩
          have e8 : xo.length < 8 := by
            have := of_decide_eq_true e
            omega
          dsimp only [tAsg]
          refine de_catA (K := K) (de_var rfl hov) (de_to1 (k := 1) (z := 1) rfl (de_var rfl hov) de_int) (by rw [List.length_take, List.length_reverse]; omega) HF (Same.refl HF) _ fun o2 HG sG ho2 => ⟨_, _, rfl, sG, ho2, fun d => ?_, by rw [List.length_append, List.length_take, List.length_reverse]; omega⟩
          rw [List.mem_append, List.mem_reverse]
          constructor
          · rintro (h | h)
            · exact h
            · exact List.mem_reverse.mp (List.mem_of_mem_take h)
          · exact .inl
        · rintro _ HG ⟨ov, os, rfl, sG, hos, hmem, h8'⟩
          have sEG := sF.trans sG
          have sAG := sAE.trans sEG
          have hsO : Sens n m os := fun d hd => hs d ((hmem d).mp hd)
          refine ⟨_, rfl, _, rfl, .ref as, ov, n, m, os, rfl, sigE.keep sEG, bnd5, hos, hsO, h8', sAG.2 _ tAA, sAG.2 _ tLA, fun r3 HI f3 g3 sI le3 hr3 => ?_⟩
          rw [ps_congr (le3.same least (fun x y _ _ => f0_mem hmem x y) (fun x y _ _ => g0_mem hmem x y)).1] at hr3
          refine ⟨_, rfl, r3, .ref t1, _, rfl, hr3, keepD (sEG.trans sI) _ _ hf1E, dep_prs n4 _, fun HJ sJ => ⟨_, rfl, iteF ?_⟩⟩
          have sIJ := sI.trans sJ
          refine ⟨_, rfl, _, rfl, .ref as, ov, n, m, os, rfl, (sigE.keep sEG).keep sIJ, bnd5, keepD sIJ _ _ hos, hsO, h8', sIJ.2 _ (sAG.2 _ tAA), sIJ.2 _ (sAG.2 _ tLA), fun r4 HK f4 g4 sK le4 hr4 => ?_⟩
          rw [ps_congr (le4.same least (fun x y _ _ => f0_mem hmem x y) (fun x y _ _ => g0_mem hmem x y)).2] at hr4
          refine ⟨_, rfl, r4, .ref t2, _, rfl, hr4, keepD ((sEG.trans sIJ).trans sK) _ _ hf2E, dep_prs n4 _, fun HL sL => ⟨_, rfl, iteF ?_⟩⟩
          have sAL : Same HA HL := ((sAG.trans sIJ).trans sK).trans sL
          have st3L := st3.keep (sXA.trans sAL)
          exact ⟨_, _, _, _, _, _, _, _, _, _, rfl, (((eL.trans e2).trans e3).trans sXA.ext).trans sAL.ext, st3L⟩
    · obtain ⟨y2, y3, y4, y5, y6, y7, y8, y9, y10, y11, rfl, eL, st⟩ := hP
      exact hQ _
end

theorem all_mk {l : PySem.W.OpenLaw} {q : Program} {w : World} {K : PySem.W.Frag} {h : Heap} {mg : Str → Option Value} {fa : Addr} (X : K.In h) (G : h.Ns mainGlobals mg) (hfa : mg "law" = some (.ref fa)) (DT : GXX.DefTabs q mg h)
    {f1 : Addr} {od1 an1 : Option Addr} {sl1 : Array (Option Value)} {oc1 kV1 dc1 pm1 cd1 ct1 : Value}
    (a1 : PySem.W.nsIn K mainGlobals "is_integer" = some (some (.ref f1))) (l1 : K.lookup f1 = some ⟨oc1, od1, .func (PySem.W.fnOf "is_integer" "is_integer" (defArgs sis_integer) (defBody sis_integer) (defScope sis_integer) .none kV1 dc1 pm1 an1 cd1 ct1), sl1⟩) (c1 : PySem.W.codeIn K cd1 "is_integer" = true) (k1 : PySem.W.keepIn K (.ref f1) = true)
    {f2 : Addr} {od2 an2 : Option Addr} {sl2 : Array (Option Value)} {oc2 kV2 dc2 pm2 cd2 ct2 : Value}
    (a2 : PySem.W.nsIn K mainGlobals "is_noun" = some (some (.ref f2))) (l2 : K.lookup f2 = some ⟨oc2, od2, .func (PySem.W.fnOf "is_noun" "is_noun" (defArgs sis_noun) (defBody sis_noun) (defScope sis_noun) .none kV2 dc2 pm2 an2 cd2 ct2), sl2⟩) (c2 : PySem.W.codeIn K cd2 "is_noun" = true) (k2 : PySem.W.keepIn K (.ref f2) = true)
    {f3 : Addr} {od3 an3 : Option Addr} {sl3 : Array (Option Value)} {oc3 kV3 dc3 pm3 cd3 ct3 : Value}
    (a3 : PySem.W.nsIn K mainGlobals "is_verb" = some (some (.ref f3))) (l3 : K.lookup f3 = some ⟨oc3, od3, .func (PySem.W.fnOf "is_verb" "is_verb" (defArgs sis_verb) (defBody sis_verb) (defScope sis_verb) .none kV3 dc3 pm3 an3 cd3 ct3), sl3⟩) (c3 : PySem.W.codeIn K cd3 "is_verb" = true) (k3 : PySem.W.keepIn K (.ref f3) = true)
    {f4 : Addr} {od4 an4 : Option Addr} {sl4 : Array (Option Value)} {oc4 kV4 dc4 pm4 cd4 ct4 : Value}
    (a4 : PySem.W.nsIn K mainGlobals "is_signature" = some (some (.ref f4))) (l4 : K.lookup f4 = some ⟨oc4, od4, .func (PySem.W.fnOf "is_signature" "is_signature" (defArgs sis_signature) (defBody sis_signature) (defScope sis_signature) .none kV4 dc4 pm4 an4 cd4 ct4), sl4⟩) (c4 : PySem.W.codeIn K cd4 "is_signature" = true) (k4 : PySem.W.keepIn K (.ref f4) = true)
    {f5 : Addr} {od5 an5 : Option Addr} {sl5 : Array (Option Value)} {oc5 kV5 dc5 pm5 cd5 ct5 : Value}
    (a5 : PySem.W.nsIn K mainGlobals "is_sentence" = some (some (.ref f5))) (l5 : K.lookup f5 = some ⟨oc5, od5, .func (PySem.W.fnOf "is_sentence" "is_sentence" (defArgs sis_sentence) (defBody sis_sentence) (defScope sis_sentence) .none kV5 dc5 pm5 an5 cd5 ct5), sl5⟩) (c5 : PySem.W.codeIn K cd5 "is_sentence" = true) (k5 : PySem.W.keepIn K (.ref f5) = true)
    {f6 : Addr} {od6 an6 : Option Addr} {sl6 : Array (Option Value)} {oc6 kV6 dc6 pm6 cd6 ct6 : Value}
    (a6 : PySem.W.nsIn K mainGlobals "_is_verb_sentence" = some (some (.ref f6))) (l6 : K.lookup f6 = some ⟨oc6, od6, .func (PySem.W.fnOf "_is_verb_sentence" "_is_verb_sentence" (defArgs s_is_verb_sentence) (defBody s_is_verb_sentence) (defScope s_is_verb_sentence) .none kV6 dc6 pm6 an6 cd6 ct6), sl6⟩) (c6 : PySem.W.codeIn K cd6 "_is_verb_sentence" = true) (k6 : PySem.W.keepIn K (.ref f6) = true)
    {f7 : Addr} {od7 an7 : Option Addr} {sl7 : Array (Option Value)} {oc7 kV7 dc7 pm7 cd7 ct7 : Value}
    (a7 : PySem.W.nsIn K mainGlobals "_is_self_sentence" = some (some (.ref f7))) (l7 : K.lookup f7 = some ⟨oc7, od7, .func (PySem.W.fnOf "_is_self_sentence" "_is_self_sentence" (defArgs s_is_self_sentence) (defBody s_is_self_sentence) (defScope s_is_self_sentence) .none kV7 dc7 pm7 an7 cd7 ct7), sl7⟩) (c7 : PySem.W.codeIn K cd7 "_is_self_sentence" = true) (k7 : PySem.W.keepIn K (.ref f7) = true)
    {f8 : Addr} {od8 an8 : Option Addr} {sl8 : Array (Option Value)} {oc8 kV8 dc8 pm8 cd8 ct8 : Value}
    (a8 : PySem.W.nsIn K mainGlobals "are_premises" = some (some (.ref f8))) (l8 : K.lookup f8 = some ⟨oc8, od8, .func (PySem.W.fnOf "are_premises" "are_premises" (defArgs sare_premises) (defBody sare_premises) (defScope sare_premises) .none kV8 dc8 pm8 an8 cd8 ct8), sl8⟩) (c8 : PySem.W.codeIn K cd8 "are_premises" = true) (k8 : PySem.W.keepIn K (.ref f8) = true)
    {f9 : Addr} {od9 an9 : Option Addr} {sl9 : Array (Option Value)} {oc9 kV9 dc9 pm9 cd9 ct9 : Value}
    (a9 : PySem.W.nsIn K mainGlobals "check_signature" = some (some (.ref f9))) (l9 : K.lookup f9 = some ⟨oc9, od9, .func (PySem.W.fnOf "check_signature" "check_signature" (defArgs scheck_signature) (defBody scheck_signature) (defScope scheck_signature) .none kV9 dc9 pm9 an9 cd9 ct9), sl9⟩) (c9 : PySem.W.codeIn K cd9 "check_signature" = true) (k9 : PySem.W.keepIn K (.ref f9) = true)
    {f10 : Addr} {od10 an10 : Option Addr} {sl10 : Array (Option Value)} {oc10 kV10 dc10 pm10 cd10 ct10 : Value}
    (a10 : PySem.W.nsIn K mainGlobals "check_premises" = some (some (.ref f10))) (l10 : K.lookup f10 = some ⟨oc10, od10, .func (PySem.W.fnOf "check_premises" "check_premises" (defArgs scheck_premises) (defBody scheck_premises) (defScope scheck_premises) .none kV10 dc10 pm10 an10 cd10 ct10), sl10⟩) (c10 : PySem.W.codeIn K cd10 "check_premises" = true) (k10 : PySem.W.keepIn K (.ref f10) = true)
    {f11 : Addr} {od11 an11 : Option Addr} {sl11 : Array (Option Value)} {oc11 kV11 dc11 pm11 cd11 ct11 : Value}
    (a11 : PySem.W.nsIn K mainGlobals "_table" = some (some (.ref f11))) (l11 : K.lookup f11 = some ⟨oc11, od11, .func (PySem.W.fnOf "_table" "_table" (defArgs s_table) (defBody s_table) (defScope s_table) .none kV11 dc11 pm11 an11 cd11 ct11), sl11⟩) (c11 : PySem.W.codeIn K cd11 "_table" = true) (k11 : PySem.W.keepIn K (.ref f11) = true)
    {f12 : Addr} {od12 an12 : Option Addr} {sl12 : Array (Option Value)} {oc12 kV12 dc12 pm12 cd12 ct12 : Value}
    (a12 : PySem.W.nsIn K mainGlobals "_leads" = some (some (.ref f12))) (l12 : K.lookup f12 = some ⟨oc12, od12, .func (PySem.W.fnOf "_leads" "_leads" (defArgs s_leads) (defBody s_leads) (defScope s_leads) .none kV12 dc12 pm12 an12 cd12 ct12), sl12⟩) (c12 : PySem.W.codeIn K cd12 "_leads" = true) (k12 : PySem.W.keepIn K (.ref f12) = true)
    {f13 : Addr} {od13 an13 : Option Addr} {sl13 : Array (Option Value)} {oc13 kV13 dc13 pm13 cd13 ct13 : Value}
    (a13 : PySem.W.nsIn K mainGlobals "_more_subsets" = some (some (.ref f13))) (l13 : K.lookup f13 = some ⟨oc13, od13, .func (PySem.W.fnOf "_more_subsets" "_more_subsets" (defArgs s_more_subsets) (defBody s_more_subsets) (defScope s_more_subsets) .none kV13 dc13 pm13 an13 cd13 ct13), sl13⟩) (c13 : PySem.W.codeIn K cd13 "_more_subsets" = true) (k13 : PySem.W.keepIn K (.ref f13) = true)
    {f14 : Addr} {od14 an14 : Option Addr} {sl14 : Array (Option Value)} {oc14 kV14 dc14 pm14 cd14 ct14 : Value}
    (a14 : PySem.W.nsIn K mainGlobals "_more_at_least" = some (some (.ref f14))) (l14 : K.lookup f14 = some ⟨oc14, od14, .func (PySem.W.fnOf "_more_at_least" "_more_at_least" (defArgs s_more_at_least) (defBody s_more_at_least) (defScope s_more_at_least) .none kV14 dc14 pm14 an14 cd14 ct14), sl14⟩) (c14 : PySem.W.codeIn K cd14 "_more_at_least" = true) (k14 : PySem.W.keepIn K (.ref f14) = true)
    {f15 : Addr} {od15 an15 : Option Addr} {sl15 : Array (Option Value)} {oc15 kV15 dc15 pm15 cd15 ct15 : Value}
    (a15 : PySem.W.nsIn K mainGlobals "tables_of" = some (some (.ref f15))) (l15 : K.lookup f15 = some ⟨oc15, od15, .func (PySem.W.fnOf "tables_of" "tables_of" (defArgs stables_of) (defBody stables_of) (defScope stables_of) .none kV15 dc15 pm15 an15 cd15 ct15), sl15⟩) (c15 : PySem.W.codeIn K cd15 "tables_of" = true) (k15 : PySem.W.keepIn K (.ref f15) = true)
    {f16 : Addr} {od16 an16 : Option Addr} {sl16 : Array (Option Value)} {oc16 kV16 dc16 pm16 cd16 ct16 : Value}
    (a16 : PySem.W.nsIn K mainGlobals "_different_pairs" = some (some (.ref f16))) (l16 : K.lookup f16 = some ⟨oc16, od16, .func (PySem.W.fnOf "_different_pairs" "_different_pairs" (defArgs s_different_pairs) (defBody s_different_pairs) (defScope s_different_pairs) .none kV16 dc16 pm16 an16 cd16 ct16), sl16⟩) (c16 : PySem.W.codeIn K cd16 "_different_pairs" = true) (k16 : PySem.W.keepIn K (.ref f16) = true)
    {f17 : Addr} {od17 an17 : Option Addr} {sl17 : Array (Option Value)} {oc17 kV17 dc17 pm17 cd17 ct17 : Value}
    (a17 : PySem.W.nsIn K mainGlobals "subsets" = some (some (.ref f17))) (l17 : K.lookup f17 = some ⟨oc17, od17, .func (PySem.W.fnOf "subsets" "subsets" (defArgs ssubsets) (defBody ssubsets) (defScope ssubsets) .none kV17 dc17 pm17 an17 cd17 ct17), sl17⟩) (c17 : PySem.W.codeIn K cd17 "subsets" = true) (k17 : PySem.W.keepIn K (.ref f17) = true)
    {f18 : Addr} {od18 an18 : Option Addr} {sl18 : Array (Option Value)} {oc18 kV18 dc18 pm18 cd18 ct18 : Value}
    (a18 : PySem.W.nsIn K mainGlobals "at_least" = some (some (.ref f18))) (l18 : K.lookup f18 = some ⟨oc18, od18, .func (PySem.W.fnOf "at_least" "at_least" (defArgs sat_least) (defBody sat_least) (defScope sat_least) .none kV18 dc18 pm18 an18 cd18 ct18), sl18⟩) (c18 : PySem.W.codeIn K cd18 "at_least" = true) (k18 : PySem.W.keepIn K (.ref f18) = true)
    {f19 : Addr} {od19 an19 : Option Addr} {sl19 : Array (Option Value)} {oc19 kV19 dc19 pm19 cd19 ct19 : Value}
    (a19 : PySem.W.nsIn K mainGlobals "_law_stream" = some (some (.ref f19))) (l19 : K.lookup f19 = some ⟨oc19, od19, .func (PySem.W.fnOf "_law_stream" "_law_stream" (defArgs s_law_stream) (defBody s_law_stream) (defScope s_law_stream) .none kV19 dc19 pm19 an19 cd19 ct19), sl19⟩) (c19 : PySem.W.codeIn K cd19 "_law_stream" = true) (k19 : PySem.W.keepIn K (.ref f19) = true)
    {f20 : Addr} {od20 an20 : Option Addr} {sl20 : Array (Option Value)} {oc20 kV20 dc20 pm20 cd20 ct20 : Value}
    (a20 : PySem.W.nsIn K mainGlobals "_law_next" = some (some (.ref f20))) (l20 : K.lookup f20 = some ⟨oc20, od20, .func (PySem.W.fnOf "_law_next" "_law_next" (defArgs s_law_next) (defBody s_law_next) (defScope s_law_next) .none kV20 dc20 pm20 an20 cd20 ct20), sl20⟩) (c20 : PySem.W.codeIn K cd20 "_law_next" = true) (k20 : PySem.W.keepIn K (.ref f20) = true)
    {f21 : Addr} {od21 an21 : Option Addr} {sl21 : Array (Option Value)} {oc21 kV21 dc21 pm21 cd21 ct21 : Value}
    (a21 : PySem.W.nsIn K mainGlobals "_law_is_integer" = some (some (.ref f21))) (l21 : K.lookup f21 = some ⟨oc21, od21, .func (PySem.W.fnOf "_law_is_integer" "_law_is_integer" (defArgs s_law_is_integer) (defBody s_law_is_integer) (defScope s_law_is_integer) .none kV21 dc21 pm21 an21 cd21 ct21), sl21⟩) (c21 : PySem.W.codeIn K cd21 "_law_is_integer" = true) (k21 : PySem.W.keepIn K (.ref f21) = true)
    {f22 : Addr} {od22 an22 : Option Addr} {sl22 : Array (Option Value)} {oc22 kV22 dc22 pm22 cd22 ct22 : Value}
    (a22 : PySem.W.nsIn K mainGlobals "_law_equal" = some (some (.ref f22))) (l22 : K.lookup f22 = some ⟨oc22, od22, .func (PySem.W.fnOf "_law_equal" "_law_equal" (defArgs s_law_equal) (defBody s_law_equal) (defScope s_law_equal) .none kV22 dc22 pm22 an22 cd22 ct22), sl22⟩) (c22 : PySem.W.codeIn K cd22 "_law_equal" = true) (k22 : PySem.W.keepIn K (.ref f22) = true)
    {f23 : Addr} {od23 an23 : Option Addr} {sl23 : Array (Option Value)} {oc23 kV23 dc23 pm23 cd23 ct23 : Value}
    (a23 : PySem.W.nsIn K mainGlobals "_law_sentence" = some (some (.ref f23))) (l23 : K.lookup f23 = some ⟨oc23, od23, .func (PySem.W.fnOf "_law_sentence" "_law_sentence" (defArgs s_law_sentence) (defBody s_law_sentence) (defScope s_law_sentence) .none kV23 dc23 pm23 an23 cd23 ct23), sl23⟩) (c23 : PySem.W.codeIn K cd23 "_law_sentence" = true) (k23 : PySem.W.keepIn K (.ref f23) = true)
    {f24 : Addr} {od24 an24 : Option Addr} {sl24 : Array (Option Value)} {oc24 kV24 dc24 pm24 cd24 ct24 : Value}
    (a24 : PySem.W.nsIn K mainGlobals "_law_premises" = some (some (.ref f24))) (l24 : K.lookup f24 = some ⟨oc24, od24, .func (PySem.W.fnOf "_law_premises" "_law_premises" (defArgs s_law_premises) (defBody s_law_premises) (defScope s_law_premises) .none kV24 dc24 pm24 an24 cd24 ct24), sl24⟩) (c24 : PySem.W.codeIn K cd24 "_law_premises" = true) (k24 : PySem.W.keepIn K (.ref f24) = true)
    {f25 : Addr} {od25 an25 : Option Addr} {sl25 : Array (Option Value)} {oc25 kV25 dc25 pm25 cd25 ct25 : Value}
    (a25 : PySem.W.nsIn K mainGlobals "_law_signature" = some (some (.ref f25))) (l25 : K.lookup f25 = some ⟨oc25, od25, .func (PySem.W.fnOf "_law_signature" "_law_signature" (defArgs s_law_signature) (defBody s_law_signature) (defScope s_law_signature) .none kV25 dc25 pm25 an25 cd25 ct25), sl25⟩) (c25 : PySem.W.codeIn K cd25 "_law_signature" = true) (k25 : PySem.W.keepIn K (.ref f25) = true)
    {f26 : Addr} {od26 an26 : Option Addr} {sl26 : Array (Option Value)} {oc26 kV26 dc26 pm26 cd26 ct26 : Value}
    (a26 : PySem.W.nsIn K mainGlobals "_law_sub" = some (some (.ref f26))) (l26 : K.lookup f26 = some ⟨oc26, od26, .func (PySem.W.fnOf "_law_sub" "_law_sub" (defArgs s_law_sub) (defBody s_law_sub) (defScope s_law_sub) .none kV26 dc26 pm26 an26 cd26 ct26), sl26⟩) (c26 : PySem.W.codeIn K cd26 "_law_sub" = true) (k26 : PySem.W.keepIn K (.ref f26) = true)
    {f27 : Addr} {od27 an27 : Option Addr} {sl27 : Array (Option Value)} {oc27 kV27 dc27 pm27 cd27 ct27 : Value}
    (a27 : PySem.W.nsIn K mainGlobals "law" = some (some (.ref f27))) (l27 : K.lookup f27 = some ⟨oc27, od27, .func (PySem.W.fnOf "law" "law" (defArgs slaw) (defBody slaw) (defScope slaw) .none kV27 dc27 pm27 an27 cd27 ct27), sl27⟩) (c27 : PySem.W.codeIn K cd27 "law" = true) (k27 : PySem.W.keepIn K (.ref f27) = true)
    (z_abs : PySem.W.nsIn K mainGlobals "abs" = some none)
    (z_all : PySem.W.nsIn K mainGlobals "all" = some none)
    (z_any : PySem.W.nsIn K mainGlobals "any" = some none)
    (z_bool : PySem.W.nsIn K mainGlobals "bool" = some none)
    (z_int : PySem.W.nsIn K mainGlobals "int" = some none)
    (z_isinstance : PySem.W.nsIn K mainGlobals "isinstance" = some none)
    (z_len : PySem.W.nsIn K mainGlobals "len" = some none)
    (z_list : PySem.W.nsIn K mainGlobals "list" = some none)
    (z_range : PySem.W.nsIn K mainGlobals "range" = some none)
    (z_str : PySem.W.nsIn K mainGlobals "str" = some none)
    (z_tuple : PySem.W.nsIn K mainGlobals "tuple" = some none)
    {k_MOST_NOUNS : Tok} (m_MOST_NOUNS : PySem.W.nsIn K mainGlobals "MOST_NOUNS" = some (some (.int 4 k_MOST_NOUNS)))
    {k_MOST_VERBS : Tok} (m_MOST_VERBS : PySem.W.nsIn K mainGlobals "MOST_VERBS" = some (some (.int 2 k_MOST_VERBS)))
    {k_MOST_PREMISES : Tok} (m_MOST_PREMISES : PySem.W.nsIn K mainGlobals "MOST_PREMISES" = some (some (.int 8 k_MOST_PREMISES)))
    {a_QUANTIFIERS : Addr} {dt_QUANTIFIERS : Option Addr} {nt_QUANTIFIERS : Nat} {st_QUANTIFIERS : Array (Option Value)} {q0_QUANTIFIERS q1_QUANTIFIERS : Tok} (m_QUANTIFIERS : PySem.W.nsIn K mainGlobals "QUANTIFIERS" = some (some (.ref a_QUANTIFIERS))) (o_QUANTIFIERS : K.lookup a_QUANTIFIERS = some ⟨.type "tuple", dt_QUANTIFIERS, .seq #[.str "all" q0_QUANTIFIERS, .str "some" q1_QUANTIFIERS] nt_QUANTIFIERS, st_QUANTIFIERS⟩)
    {a_NOUN_WORDS : Addr} {dt_NOUN_WORDS : Option Addr} {nt_NOUN_WORDS : Nat} {st_NOUN_WORDS : Array (Option Value)} {q0_NOUN_WORDS q1_NOUN_WORDS q2_NOUN_WORDS q3_NOUN_WORDS q4_NOUN_WORDS q5_NOUN_WORDS : Tok} (m_NOUN_WORDS : PySem.W.nsIn K mainGlobals "NOUN_WORDS" = some (some (.ref a_NOUN_WORDS))) (o_NOUN_WORDS : K.lookup a_NOUN_WORDS = some ⟨.type "tuple", dt_NOUN_WORDS, .seq #[.str "all" q0_NOUN_WORDS, .str "some not" q1_NOUN_WORDS, .str "no" q2_NOUN_WORDS, .str "some" q3_NOUN_WORDS, .str "as many" q4_NOUN_WORDS, .str "fewer" q5_NOUN_WORDS] nt_NOUN_WORDS, st_NOUN_WORDS⟩)
    (nt : GXX.noTab K = true)
    (r_are_premises : ((PyProof.Rows.recsOf q).any fun e => e.name == "are_premises") = true)
    (r__leads : ((PyProof.Rows.recsOf q).any fun e => e.name == "_leads") = true)
    : LamX.LawAtS l w K CX0 9 63 "script" mg fa h := by
  have e := hfa.symm.trans (PySem.W.mg_of X G a27)
  cases e
  have F1 := fun_mk (st := sis_integer) l1 c1 k1
  have F2 := fun_mk (st := sis_noun) l2 c2 k2
  have F3 := fun_mk (st := sis_verb) l3 c3 k3
  have F4 := fun_mk (st := sis_signature) l4 c4 k4
  have F5 := fun_mk (st := sis_sentence) l5 c5 k5
  have F6 := fun_mk (st := s_is_verb_sentence) l6 c6 k6
  have F7 := fun_mk (st := s_is_self_sentence) l7 c7 k7
  have F8 := fun_mk (st := sare_premises) l8 c8 k8
  have F9 := fun_mk (st := scheck_signature) l9 c9 k9
  have F10 := fun_mk (st := scheck_premises) l10 c10 k10
  have F11 := fun_mk (st := s_table) l11 c11 k11
  have F12 := fun_mk (st := s_leads) l12 c12 k12
  have F13 := fun_mk (st := s_more_subsets) l13 c13 k13
  have F14 := fun_mk (st := s_more_at_least) l14 c14 k14
  have F15 := fun_mk (st := stables_of) l15 c15 k15
  have F16 := fun_mk (st := s_different_pairs) l16 c16 k16
  have F17 := fun_mk (st := ssubsets) l17 c17 k17
  have F18 := fun_mk (st := sat_least) l18 c18 k18
  have F19 := fun_mk (st := s_law_stream) l19 c19 k19
  have F20 := fun_mk (st := s_law_next) l20 c20 k20
  have F21 := fun_mk (st := s_law_is_integer) l21 c21 k21
  have F22 := fun_mk (st := s_law_equal) l22 c22 k22
  have F23 := fun_mk (st := s_law_sentence) l23 c23 k23
  have F24 := fun_mk (st := s_law_premises) l24 c24 k24
  have F25 := fun_mk (st := s_law_signature) l25 c25 k25
  have F26 := fun_mk (st := s_law_sub) l26 c26 k26
  have F27 := fun_mk (st := slaw) l27 c27 k27
  have b1 := F1.binds (ps := ["value", "least", "most"]) fun _ _ _ _ _ _ us hl => match us, hl with | [_, _, _], _ => rfl
  have b2 := F2.binds (ps := ["signature", "value"]) fun _ _ _ _ _ _ us hl => match us, hl with | [_, _], _ => rfl
  have b3 := F3.binds (ps := ["signature", "value"]) fun _ _ _ _ _ _ us hl => match us, hl with | [_, _], _ => rfl
  have b4 := F4.binds (ps := ["value"]) fun _ _ _ _ _ _ us hl => match us, hl with | [_], _ => rfl
  have b5 := F5.binds (ps := ["signature", "value"]) fun _ _ _ _ _ _ us hl => match us, hl with | [_, _], _ => rfl
  have b6 := F6.binds (ps := ["signature", "value"]) fun _ _ _ _ _ _ us hl => match us, hl with | [_, _], _ => rfl
  have b7 := F7.binds (ps := ["signature", "value"]) fun _ _ _ _ _ _ us hl => match us, hl with | [_, _], _ => rfl
  have b8 := F8.binds (ps := ["signature", "value"]) fun _ _ _ _ _ _ us hl => match us, hl with | [_, _], _ => rfl
  have b9 := F9.binds (ps := ["signature"]) fun _ _ _ _ _ _ us hl => match us, hl with | [_], _ => rfl
  have b10 := F10.binds (ps := ["signature", "premises", "name"]) fun _ _ _ _ _ _ us hl => match us, hl with | [_, _, _], _ => rfl
  have b11 := F11.binds (ps := ["many", "pairs"]) fun _ _ _ _ _ _ us hl => match us, hl with | [_, _], _ => rfl
  have b12 := F12.binds (ps := ["table", "x", "y"]) fun _ _ _ _ _ _ us hl => match us, hl with | [_, _, _], _ => rfl
  have b13 := F13.binds (ps := ["inside", "enough"]) fun _ _ _ _ _ _ us hl => match us, hl with | [_, _], _ => rfl
  have b14 := F14.binds (ps := ["inside", "enough"]) fun _ _ _ _ _ _ us hl => match us, hl with | [_, _], _ => rfl
  have b15 := F15.binds (ps := ["many", "premises"]) fun _ _ _ _ _ _ us hl => match us, hl with | [_, _], _ => rfl
  have b16 := F16.binds (ps := ["table"]) fun _ _ _ _ _ _ us hl => match us, hl with | [_], _ => rfl
  have b17 := F17.binds (ps := ["signature", "premises"]) fun _ _ _ _ _ _ us hl => match us, hl with | [_, _], _ => rfl
  have b18 := F18.binds (ps := ["signature", "premises"]) fun _ _ _ _ _ _ us hl => match us, hl with | [_, _], _ => rfl
  have b19 := F19.binds (ps := ["script"]) fun _ _ _ _ _ _ us hl => match us, hl with | [_], _ => rfl
  have b20 := F20.binds (ps := ["stream", "many"]) fun _ _ _ _ _ _ us hl => match us, hl with | [_, _], _ => rfl
  have b21 := F21.binds (ps := ["actual"]) fun _ _ _ _ _ _ us hl => match us, hl with | [_], _ => rfl
  have b22 := F22.binds (ps := ["actual", "due"]) fun _ _ _ _ _ _ us hl => match us, hl with | [_, _], _ => rfl
  have b23 := F23.binds (ps := ["stream", "nouns", "verbs"]) fun _ _ _ _ _ _ us hl => match us, hl with | [_, _, _], _ => rfl
  have b24 := F24.binds (ps := ["stream", "signature", "most"]) fun _ _ _ _ _ _ us hl => match us, hl with | [_, _, _], _ => rfl
  have b25 := F25.binds (ps := ["stream", "most"]) fun _ _ _ _ _ _ us hl => match us, hl with | [_, _], _ => rfl
  have b26 := F26.binds (ps := ["signature", "premises"]) fun _ _ _ _ _ _ us hl => match us, hl with | [_, _], _ => rfl
  obtain ⟨cc_are_premises, pp_are_premises, ec_are_premises, et_are_premises, en_are_premises, ed_are_premises⟩ := GXX.tab_one DT X nt r_are_premises (PySem.W.mg_of X G a8) l8 rfl
  have ec_are_premises : cd8 = .ref cc_are_premises := ec_are_premises
  subst ec_are_premises
  have FC_are_premises : GXX.FunC K "are_premises" "are_premises" sare_premises f8 _ cc_are_premises := ⟨_, _, _, _, _, _, _, _, rfl, l8, c8⟩
  obtain ⟨cc__leads, pp__leads, ec__leads, et__leads, en__leads, ed__leads⟩ := GXX.tab_one DT X nt r__leads (PySem.W.mg_of X G a12) l12 rfl
  have ec__leads : cd12 = .ref cc__leads := ec__leads
  subst ec__leads
  have FC__leads : GXX.FunC K "_leads" "_leads" s_leads f12 _ cc__leads := ⟨_, _, _, _, _, _, _, _, rfl, l12, c12⟩
  let T : Txt K mg := ⟨f1, _, F1, PySem.W.mg_of X G a1, b1, f2, _, F2, PySem.W.mg_of X G a2, b2, f3, _, F3, PySem.W.mg_of X G a3, b3, f4, _, F4, PySem.W.mg_of X G a4, b4, f5, _, F5, PySem.W.mg_of X G a5, b5, f6, _, F6, PySem.W.mg_of X G a6, b6, f7, _, F7, PySem.W.mg_of X G a7, b7, f8, _, F8, PySem.W.mg_of X G a8, b8, f9, _, F9, PySem.W.mg_of X G a9, b9, f10, _, F10, PySem.W.mg_of X G a10, b10, f11, _, F11, PySem.W.mg_of X G a11, b11, f12, _, F12, PySem.W.mg_of X G a12, b12, f13, _, F13, PySem.W.mg_of X G a13, b13, f14, _, F14, PySem.W.mg_of X G a14, b14, f15, _, F15, PySem.W.mg_of X G a15, b15, f16, _, F16, PySem.W.mg_of X G a16, b16, f17, _, F17, PySem.W.mg_of X G a17, b17, f18, _, F18, PySem.W.mg_of X G a18, b18, f19, _, F19, PySem.W.mg_of X G a19, b19, f20, _, F20, PySem.W.mg_of X G a20, b20, f21, _, F21, PySem.W.mg_of X G a21, b21, f22, _, F22, PySem.W.mg_of X G a22, b22, f23, _, F23, PySem.W.mg_of X G a23, b23, f24, _, F24, PySem.W.mg_of X G a24, b24, f25, _, F25, PySem.W.mg_of X G a25, b25, f26, _, F26, PySem.W.mg_of X G a26, b26, cc_are_premises, pp_are_premises, FC_are_premises, cc__leads, pp__leads, FC__leads, PySem.W.mg_none_of X G z_abs, PySem.W.mg_none_of X G z_all, PySem.W.mg_none_of X G z_any, PySem.W.mg_none_of X G z_bool, PySem.W.mg_none_of X G z_int, PySem.W.mg_none_of X G z_isinstance, PySem.W.mg_none_of X G z_len, PySem.W.mg_none_of X G z_list, PySem.W.mg_none_of X G z_range, PySem.W.mg_none_of X G z_str, PySem.W.mg_none_of X G z_tuple, k_MOST_NOUNS, PySem.W.mg_of X G m_MOST_NOUNS, k_MOST_VERBS, PySem.W.mg_of X G m_MOST_VERBS, k_MOST_PREMISES, PySem.W.mg_of X G m_MOST_PREMISES, a_QUANTIFIERS, PySem.W.mg_of X G m_QUANTIFIERS, fun _ => .inr ⟨_, _, _, o_QUANTIFIERS, rfl, rfl, by show 2 ≤ sizeLine; decide, .cons ⟨_, rfl⟩ (.cons ⟨_, rfl⟩ (.nil))⟩, a_NOUN_WORDS, PySem.W.mg_of X G m_NOUN_WORDS, fun _ => .inr ⟨_, _, _, o_NOUN_WORDS, rfl, rfl, by show 6 ≤ sizeLine; decide, .cons ⟨_, rfl⟩ (.cons ⟨_, rfl⟩ (.cons ⟨_, rfl⟩ (.cons ⟨_, rfl⟩ (.cons ⟨_, rfl⟩ (.cons ⟨_, rfl⟩ (.nil))))))⟩⟩
  refine ⟨PySem.W.fnOf "law" "law" (defArgs slaw) (defBody slaw) (defScope slaw) .none kV27 dc27 pm27 an27 cd27 ct27, [(cc_are_premises, pp_are_premises), (cc__leads, pp__leads)], splaw K [pp_are_premises, pp__leads], (List.forall_mem_cons.mpr ⟨et_are_premises, (List.forall_mem_cons.mpr ⟨et__leads, (fun _ z => nomatch z)⟩)⟩), (List.forall_mem_cons.mpr ⟨en_are_premises, (List.forall_mem_cons.mpr ⟨en__leads, (fun _ z => nomatch z)⟩)⟩), (List.forall_mem_cons.mpr ⟨ed_are_premises, (List.forall_mem_cons.mpr ⟨ed__leads, (fun _ z => nomatch z)⟩)⟩), fun s v => .of_eq rfl, fun H a ns hl _ ht hS => ⟨a, ns, rfl, hS, hl, by
    intro b hb
    simp only [List.mem_cons, List.not_mem_nil, or_false] at hb
    rcases hb with hb | hb
    · rw [hb]; exact ⟨#[], ht (cc_are_premises, pp_are_premises) (List.mem_cons_self), trivial⟩
    · rw [hb]; exact ⟨#[], ht (cc__leads, pp__leads) (List.mem_cons_of_mem _ (List.mem_cons_self)), trivial⟩
  , fun _ => rfl⟩, fun base _ _ TB => ok_law F27 T (let t := TB _ (List.mem_cons_self); ⟨t.code, t.bm, t.gP⟩) (let t := TB _ (List.mem_cons_of_mem _ (List.mem_cons_self)); ⟨t.code, t.bm, t.gP⟩)⟩
end V
open PySem PySem.W PyProof.Rows in
set_option maxRecDepth 100000 in
set_option maxHeartbeats 0 in
theorem PySem.Challenge.cw_allsomeno_k15_subsets_and_at_least_holds : PySem.Challenge.rw_allsomeno_k15_subsets_and_at_least.Holds := by
  w_on; o_law; k_head; (case hw => w_witness2)
  k_fill
  refine GXX.walk_tabs (l := PySem.Challenge.rw_allsomeno_k15_subsets_and_at_least) (n := 63) (k := 9) (x := "script") (CX := fun _ => L2.CX0) rfl (by decide) rfl ⟨rfl, by decide, by decide⟩ (fun w h Y => PySem.W.kIn_of Y) ?F (fun _ _ _ _ _ h => h)
  case F =>
    intro w mg fa h Y KX G hmg DT
    refine' V.all_mk KX G hmg DT ?a1 ?l1 ?c1 ?k1 ?a2 ?l2 ?c2 ?k2 ?a3 ?l3 ?c3 ?k3 ?a4 ?l4 ?c4 ?k4 ?a5 ?l5 ?c5 ?k5 ?a6 ?l6 ?c6 ?k6 ?a7 ?l7 ?c7 ?k7 ?a8 ?l8 ?c8 ?k8 ?a9 ?l9 ?c9 ?k9 ?a10 ?l10 ?c10 ?k10 ?a11 ?l11 ?c11 ?k11 ?a12 ?l12 ?c12 ?k12 ?a13 ?l13 ?c13 ?k13 ?a14 ?l14 ?c14 ?k14 ?a15 ?l15 ?c15 ?k15 ?a16 ?l16 ?c16 ?k16 ?a17 ?l17 ?c17 ?k17 ?a18 ?l18 ?c18 ?k18 ?a19 ?l19 ?c19 ?k19 ?a20 ?l20 ?c20 ?k20 ?a21 ?l21 ?c21 ?k21 ?a22 ?l22 ?c22 ?k22 ?a23 ?l23 ?c23 ?k23 ?a24 ?l24 ?c24 ?k24 ?a25 ?l25 ?c25 ?k25 ?a26 ?l26 ?c26 ?k26 ?a27 ?l27 ?c27 ?k27 ?z_abs ?z_all ?z_any ?z_bool ?z_int ?z_isinstance ?z_len ?z_list ?z_range ?z_str ?z_tuple ?m_MOST_NOUNS ?m_MOST_VERBS ?m_MOST_PREMISES ?m_QUANTIFIERS ?o_QUANTIFIERS ?m_NOUN_WORDS ?o_NOUN_WORDS ?nt ?r_are_premises ?r__leads
    (case a1 => k_is); (case l1 => k_is); (case c1 => k_is); (case k1 => k_is); (case a2 => k_is); (case l2 => k_is); (case c2 => k_is); (case k2 => k_is); (case a3 => k_is); (case l3 => k_is); (case c3 => k_is); (case k3 => k_is); (case a4 => k_is); (case l4 => k_is); (case c4 => k_is); (case k4 => k_is); (case a5 => k_is); (case l5 => k_is); (case c5 => k_is); (case k5 => k_is); (case a6 => k_is); (case l6 => k_is); (case c6 => k_is); (case k6 => k_is); (case a7 => k_is); (case l7 => k_is); (case c7 => k_is); (case k7 => k_is); (case a8 => k_is); (case l8 => k_is); (case c8 => k_is); (case k8 => k_is); (case a9 => k_is); (case l9 => k_is); (case c9 => k_is); (case k9 => k_is); (case a10 => k_is); (case l10 => k_is); (case c10 => k_is); (case k10 => k_is); (case a11 => k_is); (case l11 => k_is); (case c11 => k_is); (case k11 => k_is); (case a12 => k_is); (case l12 => k_is); (case c12 => k_is); (case k12 => k_is); (case a13 => k_is); (case l13 => k_is); (case c13 => k_is); (case k13 => k_is); (case a14 => k_is); (case l14 => k_is); (case c14 => k_is); (case k14 => k_is); (case a15 => k_is); (case l15 => k_is); (case c15 => k_is); (case k15 => k_is); (case a16 => k_is); (case l16 => k_is); (case c16 => k_is); (case k16 => k_is); (case a17 => k_is); (case l17 => k_is); (case c17 => k_is); (case k17 => k_is); (case a18 => k_is); (case l18 => k_is); (case c18 => k_is); (case k18 => k_is); (case a19 => k_is); (case l19 => k_is); (case c19 => k_is); (case k19 => k_is); (case a20 => k_is); (case l20 => k_is); (case c20 => k_is); (case k20 => k_is); (case a21 => k_is); (case l21 => k_is); (case c21 => k_is); (case k21 => k_is); (case a22 => k_is); (case l22 => k_is); (case c22 => k_is); (case k22 => k_is); (case a23 => k_is); (case l23 => k_is); (case c23 => k_is); (case k23 => k_is); (case a24 => k_is); (case l24 => k_is); (case c24 => k_is); (case k24 => k_is); (case a25 => k_is); (case l25 => k_is); (case c25 => k_is); (case k25 => k_is); (case a26 => k_is); (case l26 => k_is); (case c26 => k_is); (case k26 => k_is); (case a27 => k_is); (case l27 => k_is); (case c27 => k_is); (case k27 => k_is); (case z_abs => k_is); (case z_all => k_is); (case z_any => k_is); (case z_bool => k_is); (case z_int => k_is); (case z_isinstance => k_is); (case z_len => k_is); (case z_list => k_is); (case z_range => k_is); (case z_str => k_is); (case z_tuple => k_is); (case m_MOST_NOUNS => k_is); (case m_MOST_VERBS => k_is); (case m_MOST_PREMISES => k_is); (case m_QUANTIFIERS => k_is); (case o_QUANTIFIERS => k_is); (case m_NOUN_WORDS => k_is); (case o_NOUN_WORDS => k_is); (case nt => kernel_rfl!); (case r_are_premises => decide +kernel); (case r__leads => decide +kernel)
