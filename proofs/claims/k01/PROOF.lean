import PyProof.Rows.All
import Wide.All
import OpenK.AllK
import Wide.FinOn
import HandS.ForMost
import HandS.IsInst
import HandS.Codes
import HandS.TupAny
import HandS.Deep
import HandS.AnyAll
import HandS.GenList
import HandS.EndOwn
import HandS.TupMul
import PySem.Challenge.RW_allsomeno_k01_forms_of_sentences
set_option Elab.async false
set_option linter.all false
set_option maxRecDepth 100000
set_option maxHeartbeats 4000000

/-! ## all(..) and any(..) of a generator expression whose element may call: the generator's frame is a context of its own, its loop goes by a word of one's own -/
namespace GXX
open PySem PySem.Spec PyProof.Rows L2 GenW
section
variable {prog : Program} {w : World} {A : Around}
/-- the generator's loop, by any word J over (turns left, state): an item out (Yd), the end (Fin) -/
theorem seg_loopJ {elt iter tg : Expr} {scope : Scope} {pos : Pos} {it : Addr} {cenv : Env} {J : Nat → Shared → Prop} {Fn : Shared → Prop} {Yd : Nat → Value → Shared → Prop} {Sl : Value → Shared → Shared → Prop}
    (hco : cenv.scope.isCoroutine = false)
    (turn : ∀ k s, J k s → wpAny (model prog w) (A.over (.compLoop (.GeneratorExp elt [⟨tg, iter, [], 0⟩] scope pos) 0 (.ref it) .none cenv) []) (pyNext (.ref it)) (fun r s1 => match r with
      | none => Fn s1
      | some v => wpAny (model prog w) (A.over (.compLoop (.GeneratorExp elt [⟨tg, iter, [], 0⟩] scope pos) 0 (.ref it) .none cenv) []) (letOwnedTupleGo tg (.ref it) v) (fun _ s2 =>
          wpAny (model prog w) (A.over (.compLoop (.GeneratorExp elt [⟨tg, iter, [], 0⟩] scope pos) 0 (.ref it) .none cenv) []) (assign tg cenv v) (fun _ s3 =>
            wpAny (model prog w) (A.over (.compLoop (.GeneratorExp elt [⟨tg, iter, [], 0⟩] scope pos) 0 (.ref it) .none cenv) []) (eval elt cenv) (fun y s4 => Yd k y s4) (fun _ _ => False) s3) (fun _ _ => False) s2) (fun _ _ => False) s1) (fun _ _ => False) s)
    (back : ∀ k y s s', Yd k y s → Sl y s s' → ∃ k', k' < k ∧ J k' s') :
    ∀ (n k : Nat) (s₀ s : Shared), k < n → J k s →
      Seg (model prog w) A (fun _ _ r s1 => r = .ok .next ∧ Fn s1) (fun _ _ v s kap => ∃ k, Yd k v s ∧ ∀ s', Sl v s s' → kap (.send .none) s') n s₀
        (.compLoop (.GeneratorExp elt [⟨tg, iter, [], 0⟩] scope pos) 0 (.ref it) .none cenv) ((model prog w).den (.compLoop (.GeneratorExp elt [⟨tg, iter, [], 0⟩] scope pos) 0 (.ref it) .none cenv)) [] s := by
  intro n
  induction n with
  | zero => exact fun k _ _ h => absurd h (Nat.not_lt_zero k)
  | succ n ih =>
    intro k s₀ s hk hJ
    show Seg _ A _ _ _ s₀ _ ((compTurn (.GeneratorExp elt [⟨tg, iter, [], 0⟩] scope pos) 0 (.ref it) .none cenv).onRaise (leaving cenv)) [] s
    rw [compTurn_gen, Sem.onRaise_eq_wrap]
    refine seg_bind_wrap (wpAny_standAt ?_)
    refine seg_bind_wrap (wpAny_mono (turn k s hJ) (fun r s1 h1 => ?_) fun _ _ z => z.elim)
    cases r with
    | none => exact seg_end (.ok .next) ⟨rfl, h1⟩
    | some v =>
      refine seg_bind_wrap (wpAny_mono h1 (fun _ s2 h2 => ?_) fun _ _ z => z.elim)
      refine seg_bind_wrap (wpAny_mono h2 (fun _ s3 h3 => ?_) fun _ _ z => z.elim)
      simp only [List.forIn_nil, pure_bind, if_true]
      have hy : ∀ v, yieldOut cenv v = yieldValue v := fun v => by simp only [yieldOut, hco, Bool.false_eq_true, if_false]
      simp only [hy]
      rw [Sem.bind_eq_wrap', Sem.bind_eq_wrap', Sem.wrap_wrap, Sem.wrap_wrap]
      refine seg_wrap (wpAny_mono h3 (fun y s4 h4 => ?_) fun _ _ z => z.elim)
      refine seg_at (seg_yield rfl rfl rfl ⟨k, h4, fun s' hs => ?_⟩)
      obtain ⟨k', hk', hJ'⟩ := back k y s4 s' h4 hs
      exact seg_again rfl (ih k' s' s' (by omega) hJ')
end
end GXX
namespace GXX
open PySem PySem.Spec PyProof.Rows L2 GenW
section
variable {prog : Program} {w : World} {A : Around}
/-- .. from its start -/
theorem seg_startJ {elt iter tg : Expr} {scope : Scope} {pos : Pos} {it : Addr} {cenv : Env} {R : GenEnd} {Y : Protocol} {n : Nat} {s₀ s : Shared}
    (self : ∀ (A' : Around) (Q : Value → Shared → Prop) (E : Value → Shared → Prop), Q (.ref it) s → wpAny (model prog w) A' (pyIter (.ref it)) Q E s)
    (loop : Seg (model prog w) A R Y n s₀ (.compLoop (.GeneratorExp elt [⟨tg, iter, [], 0⟩] scope pos) 0 (.ref it) .none cenv) ((model prog w).den (.compLoop (.GeneratorExp elt [⟨tg, iter, [], 0⟩] scope pos) 0 (.ref it) .none cenv)) [] s) :
    Seg (model prog w) A R Y n s₀ (.compStart (.GeneratorExp elt [⟨tg, iter, [], 0⟩] scope pos) 0 (.ref it) .none cenv) ((model prog w).den (.compStart (.GeneratorExp elt [⟨tg, iter, [], 0⟩] scope pos) 0 (.ref it) .none cenv)) [] s := by
  show Seg _ A _ _ _ s₀ _ ((compStart (.GeneratorExp elt [⟨tg, iter, [], 0⟩] scope pos) 0 (.ref it) .none cenv).onRaise (leaving cenv)) [] s
  unfold compStart
  rw [Sem.onRaise_eq_wrap]
  show Seg _ A _ _ _ s₀ _ ((ask >>= _).wrap _ _ _ _) [] s
  refine seg_bind_wrap (wpAny_askSetting ?_)
  split
  · exact seg_again rfl loop
  · refine seg_bind_wrap (wpAny_rule ?_)
    show Seg _ A _ _ _ s₀ _ ((standAt iter.pos >>= _).wrap _ _ _ _) [] s
    exact seg_bind_wrap (wpAny_standAt (seg_bind_wrap (self _ _ _ (seg_again rfl loop))))
/-! ### all(g), any(g) -/
/-- a generator that sleeps: whoever wakes it goes on by R, Y -/
def Asleep (prog : Program) (w : World) (A : Around) (a : Addr) (g : Nat) (R : GenEnd) (Y : Protocol) (n : Nat) (s : Shared) : Prop :=
  s.heap.IsGen a g ∧ s.heap.NoLimit ∧ ∃ gs, s.gens[g]? = some gs ∧ gs.Goes (model prog w) A R Y n (.send .none) (s.setGen g .running)
/-- while it slept nothing went on -/
structure Still (s s' : Shared) : Prop where
  os : s'.os = s.os
  bare : AllBare s'.gens
  heap : s'.heap = s.heap
abbrev RJ (Fn : Shared → Prop) : GenEnd := fun _ _ r s1 => r = .ok .next ∧ Fn s1
/-- the consumer goes on behind the truth that is not brk -/
def On (brk : Bool) (v : Value) (s s' : Shared) : Prop := v = .bool (!brk) ∧ Still s s'
abbrev YJ (brk : Bool) (Yd : Nat → Value → Shared → Prop) : Protocol := fun _ _ v s kap => ∃ k, Yd k v s ∧ ∀ s', On brk v s s' → kap (.send .none) s'
/-- an item: a truth, the generator as it was -/
def Item (a : Addr) (g : Nat) (Yd : Nat → Value → Shared → Prop) : Prop := ∀ k v s, Yd k v s → (∃ b, v = .bool b) ∧ AllBare s.gens ∧ s.heap.NoLimit ∧ s.heap.IsGen a g
theorem all_loopJ {a : Addr} {g : Nat} {Fn : Shared → Prop} {Yd : Nat → Value → Shared → Prop} {Rr : Result → Shared → Prop} (hh : A.handled = none) (hd : A.depth < recursionLimit) (hi : Item a g Yd)
    (hfin : ∀ s' h', Fn s' → (∀ b o, s'.heap.get? b = some o → h'.get? b = some o) → Rr (.ok (.ret (.bool true))) { s'.setGen g .finished with heap := h' })
    (hno : ∀ k s' gs', Yd k (.bool false) s' → gs'.bare = true → Rr (.ok (.ret (.bool false))) (s'.setGen g gs')) :
    ∀ (n : Nat) (s : Shared), Asleep prog w A.in1.in1 a g (RJ Fn) (YJ false Yd) n s → codeAny (model prog w) A (.builtin "all.loop" ⟨[.ref a], []⟩) Rr s := by
  intro n
  induction n with
  | zero =>
    intro s ⟨hg, hl, gs, hgs, hgo⟩
    refine codeAny_builtin F.entry_all_loop ?_
    rw [Around.under_plainId F.plain_all_loop _]
    show wpAny _ A.in1 (pyNext (.ref a) >>= _) _ _ s
    refine wpAny_bind (wpAny_pyNext_genexpQ (A := A.in1) (P := fun _ _ s1 => Fn s1) hh hl hd hg hgs hgo (fun v s1 gs' hb hv => ?_) fun s1 hp h' hk => ?_)
    · obtain ⟨k, hY, hk⟩ := hv
      obtain ⟨⟨b, rfl⟩, hba, _, _⟩ := hi k v s1 hY
      cases b with
      | true => exact (hk s1 ⟨rfl, rfl, hba, rfl⟩).elim
      | false =>
        refine wpAny_bind (wpAny_holding (wpAny_truthy_bool ?_))
        refine wpAny_bind (wpAny_letGo ?_)
        simp only [Bool.false_eq_true, if_false]
        first
          | exact wpAny_pure (hno k s1 gs' hY hb)
          | exact wpAny_bind (wpAny_rule (wpAny_pure (hno k s1 gs' hY hb)))
    · exact wpAny_bind (wpAny_rule (wpAny_pure (hfin _ _ hp hk)))
  | succ n ih =>
    intro s ⟨hg, hl, gs, hgs, hgo⟩
    have hgl : g < s.gens.size := (Array.getElem?_eq_some_iff.mp hgs).1
    refine codeAny_builtin F.entry_all_loop ?_
    rw [Around.under_plainId F.plain_all_loop _]
    show wpAny _ A.in1 (pyNext (.ref a) >>= _) _ _ s
    refine wpAny_bind (wpAny_gsz (n := g + 1) hgl (wpAny_pyNext_genexpQ (A := A.in1) (P := fun _ _ s1 => Fn s1) hh hl hd hg hgs hgo (fun v s1 gs' hb hv => ?_) fun s1 hp h' hk => ?_))
    · intro hsz
      obtain ⟨k, hY, hk⟩ := hv
      obtain ⟨⟨b, rfl⟩, hba, hl1, hg1⟩ := hi k v s1 hY
      have hsz1 : g < s1.gens.size := by
        have q : (s1.setGen g gs').gens.size = s1.gens.size := setGen_size _ _ _
        have hsz' : g + 1 ≤ (s1.setGen g gs').gens.size := hsz
        omega
      refine wpAny_bind (wpAny_holding (wpAny_truthy_bool ?_))
      refine wpAny_bind (wpAny_letGo ?_)
      cases b with
      | true =>
        simp only [if_true]
        refine wpAny_pure ⟨plainId_quiet F.plain_all_loop _, ih _ ⟨hg1, hl1, gs', setGen_at hsz1, ?_⟩⟩
        exact hk _ ⟨rfl, rfl, allBare_setGen (s := s1.setGen g gs') (allBare_setGen hba hb) rfl, rfl⟩
      | false =>
        simp only [Bool.false_eq_true, if_false]
        first
          | exact wpAny_pure (hno k s1 gs' hY hb)
          | exact wpAny_bind (wpAny_rule (wpAny_pure (hno k s1 gs' hY hb)))
    · intro _
      exact wpAny_bind (wpAny_rule (wpAny_pure (hfin _ _ hp hk)))
theorem any_loopJ {a : Addr} {g : Nat} {Fn : Shared → Prop} {Yd : Nat → Value → Shared → Prop} {Rr : Result → Shared → Prop} (hh : A.handled = none) (hd : A.depth < recursionLimit) (hi : Item a g Yd)
    (hfin : ∀ s' h', Fn s' → (∀ b o, s'.heap.get? b = some o → h'.get? b = some o) → Rr (.ok (.ret (.bool false))) { s'.setGen g .finished with heap := h' })
    (hno : ∀ k s' gs', Yd k (.bool true) s' → gs'.bare = true → Rr (.ok (.ret (.bool true))) (s'.setGen g gs')) :
    ∀ (n : Nat) (s : Shared), Asleep prog w A.in1.in1 a g (RJ Fn) (YJ true Yd) n s → codeAny (model prog w) A (.builtin "any.loop" ⟨[.ref a], []⟩) Rr s := by
  intro n
  induction n with
  | zero =>
    intro s ⟨hg, hl, gs, hgs, hgo⟩
    refine codeAny_builtin F.entry_any_loop ?_
    rw [Around.under_plainId F.plain_any_loop _]
    show wpAny _ A.in1 (pyNext (.ref a) >>= _) _ _ s
    refine wpAny_bind (wpAny_pyNext_genexpQ (A := A.in1) (P := fun _ _ s1 => Fn s1) hh hl hd hg hgs hgo (fun v s1 gs' hb hv => ?_) fun s1 hp h' hk => ?_)
    · obtain ⟨k, hY, hk⟩ := hv
      obtain ⟨⟨b, rfl⟩, hba, _, _⟩ := hi k v s1 hY
      cases b with
      | false => exact (hk s1 ⟨rfl, rfl, hba, rfl⟩).elim
      | true =>
        refine wpAny_bind (wpAny_holding (wpAny_truthy_bool ?_))
        refine wpAny_bind (wpAny_letGo ?_)
        simp only [if_true]
        first
          | exact wpAny_pure (hno k s1 gs' hY hb)
          | exact wpAny_bind (wpAny_rule (wpAny_pure (hno k s1 gs' hY hb)))
    · exact wpAny_bind (wpAny_rule (wpAny_pure (hfin _ _ hp hk)))
  | succ n ih =>
    intro s ⟨hg, hl, gs, hgs, hgo⟩
    have hgl : g < s.gens.size := (Array.getElem?_eq_some_iff.mp hgs).1
    refine codeAny_builtin F.entry_any_loop ?_
    rw [Around.under_plainId F.plain_any_loop _]
    show wpAny _ A.in1 (pyNext (.ref a) >>= _) _ _ s
    refine wpAny_bind (wpAny_gsz (n := g + 1) hgl (wpAny_pyNext_genexpQ (A := A.in1) (P := fun _ _ s1 => Fn s1) hh hl hd hg hgs hgo (fun v s1 gs' hb hv => ?_) fun s1 hp h' hk => ?_))
    · intro hsz
      obtain ⟨k, hY, hk⟩ := hv
      obtain ⟨⟨b, rfl⟩, hba, hl1, hg1⟩ := hi k v s1 hY
      have hsz1 : g < s1.gens.size := by
        have q : (s1.setGen g gs').gens.size = s1.gens.size := setGen_size _ _ _
        have hsz' : g + 1 ≤ (s1.setGen g gs').gens.size := hsz
        omega
      refine wpAny_bind (wpAny_holding (wpAny_truthy_bool ?_))
      refine wpAny_bind (wpAny_letGo ?_)
      cases b with
      | false =>
        simp only [Bool.false_eq_true, if_false]
        refine wpAny_pure ⟨plainId_quiet F.plain_any_loop _, ih _ ⟨hg1, hl1, gs', setGen_at hsz1, ?_⟩⟩
        exact hk _ ⟨rfl, rfl, allBare_setGen (s := s1.setGen g gs') (allBare_setGen hba hb) rfl, rfl⟩
      | true =>
        simp only [if_true]
        first
          | exact wpAny_pure (hno k s1 gs' hY hb)
          | exact wpAny_bind (wpAny_rule (wpAny_pure (hno k s1 gs' hY hb)))
    · intro _
      exact wpAny_bind (wpAny_rule (wpAny_pure (hfin _ _ hp hk)))
end
end GXX
namespace GXX
open PySem PySem.Spec PyProof.Rows L2 GenW
/-- the context of a generator expression's frame, woken by a built-in's loop -/
abbrev genCx (X : Cx) (s : Shared) (H : Hp) (scope : Scope) (cl : List (Str × Addr)) (C : Addr) (code : Value) (c : Env → Code) (fp : List Addr) : Cx :=
  { X with s_0 := s, H_0 := H, env := genEnv scope cl C code builtinsNs X.env, outer := X.stack, stack := genEnv scope cl C code builtinsNs X.env :: X.stack,
           A := X.A.in1.in1.over (c (genEnv scope cl C code builtinsNs X.env)) [], ex := fp, fn := fun _ => false, pn := [], xe := fun _ _ => False }
section
variable {X : Cx} {pins : List (Addr × Obj)} {σ : L2.St} {H : Hp} {s s5 : Shared}
theorem gen_start {scope : Scope} {own : List (Str × Nat)} {fp : List Addr} {code : Value} {c : Env → Code} {a : Addr} {go : Obj} {m : Str → Option Value}
    (I : Inv X pins σ H s) (ok : BlkOk X.N X.env.scope scope own) (noc : ∀ y ∈ scope.names, y.2 ≠ .cell) (hN : X.N.Nodup) (hfp : ∀ b ∈ fp, FpOk X pins H b ∧ b < s.heap.objs.size)
    (hc : ∀ e, (c e).envs = [e]) (kp : ∀ b o, s.heap.get? b = some o → s5.heap.get? b = some o) (hos : s5.os = s.os) (hba : AllBare s5.gens) (hm : s5.heap.Ns s.heap.objs.size m)
    (hga : s5.heap.get? a = some go) (hgd : ∀ v, go.data ≠ .cell v) (ha : s.heap.objs.size < a) :
    Inv (genCx X s H scope (cloFrom X.env.cells scope.names []) s.heap.objs.size code c fp) [(a, go)] (wipe σ (own.map (·.2))) H s5 := by
  have hfree : ∀ y ∈ scope.names, y.2 = .free → ∃ c, X.env.cells.lookup y.1 = some c := fun y hy e => (ok.free y hy e).elim (fun k => I.ok.has _ (.inl k)) fun k => I.ok.has _ (.inr k)
  have cm : ∀ {y b}, (y, b) ∈ cloFrom X.env.cells scope.names [] → X.env.cells.lookup y = some b := fun {y b} hm => by
    rcases cloFrom_mem hm with hm | ⟨h1, rfl⟩
    · cases hm
    · obtain ⟨c, hc⟩ := hfree _ h1 rfl
      rw [hc]
      rfl
  have cl : ∀ {y b}, (cloFrom X.env.cells scope.names []).lookup y = some b → X.env.cells.lookup y = some b := fun e => cm (PySem.mem_of_lookup e)
  have look : ∀ {y}, scope.names.lookup y = some .free → ∃ b, (cloFrom X.env.cells scope.names []).lookup y = some b ∧ X.env.cells.lookup y = some b := fun {y} hl => by
    obtain ⟨b, e⟩ := mem_lookup (cloFrom_has (cells := X.env.cells) (acc := []) (PySem.mem_of_lookup hl))
    exact ⟨b, e, cl e⟩
  have nocell : ∀ {y}, scope.names.lookup y = some .cell → False := fun {y} e => noc _ (PySem.mem_of_lookup e) rfl
  have hX : (genCx X s H scope (cloFrom X.env.cells scope.names []) s.heap.objs.size code c fp).Ok :=
    { mod := I.ok.mod, kind := ok.kind, glob := I.ok.glob, blt := rfl, above := Nat.le_refl _,
      inj := fun y z b e1 e2 => I.ok.inj y z b (cl e1) (cl e2),
      has := fun y hy => by
        rcases hy with hy | hy
        · exact (nocell hy).elim
        · obtain ⟨b, e, _⟩ := look hy
          exact ⟨b, e⟩
      cab := fun y b z _ => nomatch z
      hd := I.ok.hd
      frames := by
        show pushEnvs (c _).envs (pushEnvs (envsOf []) X.A.frames) = _
        rw [hc, I.ok.frames]
        rfl
      stk := .inr ⟨rfl, rfl⟩
      exf := fun b hb => ⟨Nat.ne_of_lt (hfp b hb).2, fun y e h z => (hfp b hb).1.2.2.2.2.1 y e (cl h) z⟩
      bs := I.bs
      bsz := Nat.le_trans I.ok.bsz I.sz
      noex := fun b o e hb => (hfp b hb).1.2.2.2.1.elim (fun z => I.ok.noex b o e z) fun z => absurd (Nat.lt_of_lt_of_le (Heap.lt_size e) (Nat.le_trans I.ok.bsz z)) (Nat.lt_irrefl _)
      exfs := fun b hb z => (List.mem_cons.mp (I.stkSub b z)).elim (fun z => (hfp b hb).1.2.1 z) fun z => (hfp b hb).1.2.2.1 z
      funs := I.stack
      frf := I.stkFree }
  refine ⟨hX, hos, hba, Un.kept kp, ⟨m, hm, fun i y v e1 e2 e3 => ?_⟩, fun y b e => ?_, I.hok.fresh (Nat.le_refl _), fun y b e => I.freeC y b (cl e), fun p hp => ?_, I.hok.kept kp, by rw [wipe_length]; exact I.len⟩
  · obtain ⟨e2, hne⟩ := wipe_some e2
    have no : ∀ k, scope.names.lookup y = some k → k = .local ∨ k = .cell → False := fun k e hk => by
      rcases ok.own _ (PySem.mem_of_lookup e) hk with e' | e'
      · obtain ⟨p, hp, hpy⟩ := List.mem_map.mp e'
        have e4 := ok.ix p hp
        have hpy : p.1 = y := hpy
        rw [hpy] at e4
        exact hne (List.mem_map.mpr ⟨p, hp, nodup_ix hN e4 e1⟩)
      · exact e' (List.mem_of_getElem? e1)
    have fr : scope.names.lookup y = some .free := by
      rcases e3 with e3 | e3 | e3
      · exact (no _ e3 (.inl rfl)).elim
      · exact (no _ e3 (.inr rfl)).elim
      · exact e3
    obtain ⟨b, h1, h2⟩ := look fr
    obtain ⟨m', _, hl⟩ := I.loc
    have hv := ok.free _ (PySem.mem_of_lookup fr) rfl
    obtain ⟨u, r, q⟩ := hl i y v e1 e2 (hv.elim (fun k => .inr (.inl k)) fun k => .inr (.inr k))
    refine ⟨u, r, .inr ⟨.inr fr, b, h1, ?_⟩⟩
    rcases q with ⟨k, _⟩ | ⟨_, b', e', z⟩
    · have k : X.env.scope.names.lookup y = some .local := k
      rcases hv with k' | k' <;> (rw [k'] at k; cases k)
    · rw [h2] at e'
      cases e'
      exact z.keeps kp
  · obtain ⟨v, z⟩ := I.cell y b (cl e)
    exact ⟨v, z.keeps kp⟩
  · have hp : p ∈ ([] : List (Addr × Obj)) ++ [(a, go)] := hp
    rw [List.nil_append, List.mem_singleton] at hp
    subst hp
    refine ⟨hga, I.hok.fresh (Nat.le_of_lt ha), Nat.ne_of_gt ha, fun hb => ?_, hgd⟩
    rcases List.mem_cons.mp (I.stkSub a hb) with z | z
    · exact absurd (Nat.lt_trans (by rw [z]; exact I.lt) ha) (Nat.lt_irrefl _)
    · exact I.nofs (Nat.le_of_lt ha) z
/-- nothing went on -/
theorem inv_still {s' : Shared} (I : Inv X pins σ H s) (st : Still s s') : Inv X pins σ H s' := by
  obtain ⟨h', g', d', t', o'⟩ := s'
  obtain ⟨e1, e2, e3⟩ := st
  have e1 : o' = s.os := e1
  have e3 : h' = s.heap := e3
  subst e1 e3
  exact I.step (g' := g') (d' := d') (t' := t') (h' := s.heap) (ch := []) (fun b hb => absurd hb (by simp)) (fun b o _ _ _ e _ => e) (fun b o _ _ _ e _ => ⟨o.slots, e⟩) (fun b o _ _ n => n) (fun b o _ e => ⟨o, e⟩)
    (fun _ _ e => e) (fun _ _ _ e => e) (fun b ps e => ⟨#[], by rw [e]; simp⟩) (fun m hm => hm) I.hok e2
end
end GXX
namespace GXX
open PySem PySem.Spec PyProof.Rows L2 GenW GxR
/-- what all(..) (brk = false), any(..) (brk = true) of a generator expression ask: the walked thing, a word over (turn, turns left, heap), one turn: the target, the element, a truth -/
def tGen (P : Addr) (wi : TI) (g : TG) (te : TE) (vs : List Nat) (brk : Bool) : TE := fun σ H Q => wi σ H fun J H1 => TabG H1 P ∧ ∀ H2, Tabbed P H1 H2 → ∃ W : Nat → Nat → Hp → Prop, (∃ m, W 0 m H2) ∧ ∀ i m H, W i m H →
  (J.stop i H ∧ Q (.bl (!brk)) H) ∨ (J.go i H ∧ ∃ Nx : Hp → Prop, (∀ H', Nx H' → ∃ m', m' < m ∧ W (i + 1) m' H') ∧ ∀ x H', J.yld i H x H' → g x (wipe σ vs) H' fun σ2 H2 => wipe σ2 vs = wipe σ vs ∧
    te σ2 H2 fun y H3 => ∃ b, y = .bl b ∧ (b ≠ brk → Nx H3) ∧ (b = brk → Q (.bl brk) H3))
/-- the code that a generator expression runs -/
abbrev genCode (elt tg iter : Expr) (scope : Scope) (pos : Pos) (it : Addr) : Env → Code := fun e => .compLoop (.GeneratorExp elt [⟨tg, iter, [], 0⟩] scope pos) 0 (.ref it) .none e
theorem room_gen {X : Cx} {k : Nat} {s : Shared} {H : Hp} {scope sc2 : Scope} {cl : List (Str × Addr)} {C it : Addr} {code : Value} {fp : List Addr} {elt tg iter : Expr} {pos : Pos} (hr : Room (k + 1) X.A) : Room k (genCx X s H scope cl C code (genCode elt tg iter sc2 pos it) fp).A := by
  refine ⟨hr.hd, ?_, ?_⟩
  · have := hr.dp
    show X.A.depth + 0 + 1 + 3 * k + 5 < _
    omega
  · have := hr.un
    show X.A.units + 1 + 1 + 0 + 3 + 16 * k + 200 < _
    omega
section
variable {X : Cx} {pins : List (Addr × Obj)} {σ : L2.St} {H : Hp} {s : Shared}
theorem gen_made {c0 P : Addr} {elt iter tg : Expr} {scope : Scope} {gpos : Pos} {own : List (Str × Nat)} {wi : TI} {g : TG} {te : TE} {brk : Bool} {Q : VK} {Q' : Value → Shared → Prop}
    (hcalm : X.calm = true) (hhd : X.A.handled = none) (hdp : X.A.depth < recursionLimit) (TB : TabB X.base X.mg c0 P) (hcode : X.env.code = .ref c0) (hi : PI X tg iter wi) (ok : BlkOk X.N X.env.scope scope own) (noc : ∀ y ∈ scope.names, y.2 ≠ .cell)
    (hN : X.N.Nodup) (hdot : scope.names.lookup (".0" : Str) = some NameKind.local) (hco : scope.isCoroutine = false)
    (hg : ∀ (s : Shared) (H : Hp) (cl : List (Str × Addr)) (C : Addr) (code : Value) (it : Addr) (fp : List Addr), PG (genCx X s H scope cl C code (genCode elt tg iter scope gpos it) fp) tg g)
    (he : ∀ (s : Shared) (H : Hp) (cl : List (Str × Addr)) (C : Addr) (code : Value) (it : Addr) (fp : List Addr), PE (genCx X s H scope cl C code (genCode elt tg iter scope gpos it) fp) elt te)
    (hs : ∀ v, genFold iter X.env v = pure v) (I : Inv X pins σ H s) (h : tGen P wi g te (own.map (·.2)) brk σ H Q)
    (hQ : ∀ (a : Addr) (g0 n : Nat) (s5 : Shared) (Fn : Shared → Prop) (Yd : Nat → Value → Shared → Prop), Item a g0 Yd →
      (∀ s' h', Fn s' → (∀ b o, s'.heap.get? b = some o → h'.get? b = some o) → EP X pins σ Q (.bool (!brk)) { s'.setGen g0 .finished with heap := h' }) →
      (∀ k s' gs', Yd k (.bool brk) s' → gs'.bare = true → EP X pins σ Q (.bool brk) (s'.setGen g0 gs')) →
      Asleep X.prog X.w X.A.in1.in1 a g0 (RJ Fn) (YJ brk Yd) n s5 → Q' (.ref a) s5) :
    wpAny (model X.prog X.w) X.A (eval (.GeneratorExp elt [⟨tg, iter, [], 0⟩] scope gpos) X.env) Q' X.xe s := by
  have hfree : ∀ y ∈ scope.names, y.2 = .free → ∃ c, X.env.cells.lookup y.1 = some c := fun y hy e => (ok.free y hy e).elim (fun k => I.ok.has _ (.inl k)) fun k => I.ok.has _ (.inr k)
  refine wpAny_GeneratorExp_make hco (closure_ok hfree) noc hdot ok.kind hdp ?_ hs
  refine thn (hi.run pins s σ H _ I h) fun xv s1 h1 => thn h1 fun itv s2 h2 => ?_
  obtain ⟨it, fp, tn, J, H2, e, I2, T, st2, f2, ⟨ps, hP, ht⟩, q⟩ := h2
  subst e
  refine ⟨I2.nolimit, ?_⟩
  have hPs : s2.heap.get? P = some { cls := .none, data := .fields ps } := I2.hok P _ hP
  have cd : PySem.W.CodeHd s2.heap c0 P := TB.code.keeps fun b u e => I2.bk b u e
  have fpP : ∀ b ∈ fp, b ≠ P := fun b hb z => by
    have := (f2 b hb).1
    rw [z, hP] at this
    cases this
  -- behind the code's making
  have cont : ∀ (code : Value) (s3 : Shared) (H3 : Hp), Inv X pins σ H3 s3 → Tabbed P H2 H3 → (∀ b o, b ≠ P → s2.heap.get? b = some o → s3.heap.get? b = some o) →
      wpAny (model X.prog X.w) X.A (builtinsFor X.env.globals X.env.builtins) (fun bi s4 => ∀ h', h'.Ns s4.heap.objs.size (fun y => if y = ".0" then some (Value.ref it) else none) → Heap.SameBut s4.heap.objs.size (s4.heap.push { cls := .type "frame", data := .dict #[] }) h' →
          Q' (.ref h'.objs.size) { s4 with
            gens := s4.gens.push (.fresh (.compStart (.GeneratorExp elt [⟨tg, iter, [], 0⟩] scope gpos) 0 (.ref it) .none (genEnv scope (cloFrom X.env.cells scope.names []) s4.heap.objs.size code bi X.env))),
            toks := s4.toks + 1 + 1 + 1,
            heap := h'.push { cls := .type "generator", data := .fields #[.int s4.gens.size 0, .str "<genexpr>" (s4.toks + 1), .str (X.env.qual ++ "<genexpr>") (s4.toks + 1 + 1)] } }) X.xe s3 := by
    intro code s3 H3 I3 htab k23
    obtain ⟨bm, ob, e1, e2, e3, e4, e5, e6, e7, e8⟩ := TB.bm
    refine wpAny_builtinsFor (m := X.mg) (by rw [I3.ok.glob]; exact I3.mod.glob.keeps I3.bk) e1 e2 (I3.bk _ _ e5) e6 e7 e8 ?_
    intro h' hns hsb
    obtain ⟨W, ⟨m0, w0⟩, turn⟩ := q H3 htab
    generalize hgo : ({ cls := .type "generator", data := .fields #[.int s3.gens.size 0, .str "<genexpr>" (s3.toks + 1), .str (X.env.qual ++ "<genexpr>") (s3.toks + 1 + 1)] } : Obj) = go
    generalize hs5 : ({ s3 with gens := s3.gens.push (.fresh (.compStart (.GeneratorExp elt [⟨tg, iter, [], 0⟩] scope gpos) 0 (.ref it) .none (genEnv scope (cloFrom X.env.cells scope.names []) s3.heap.objs.size code builtinsNs X.env))), toks := s3.toks + 1 + 1 + 1, heap := h'.push go } : Shared) = s5
    have h5 : s5.heap = h'.push go := by rw [← hs5]
    have g5 : s5.gens = s3.gens.push (.fresh (.compStart (.GeneratorExp elt [⟨tg, iter, [], 0⟩] scope gpos) 0 (.ref it) .none (genEnv scope (cloFrom X.env.cells scope.names []) s3.heap.objs.size code builtinsNs X.env))) := by rw [← hs5]
    have o5 : s5.os = s3.os := by rw [← hs5]
    have sz' : h'.objs.size = s3.heap.objs.size + 1 := by rw [hsb.1, Heap.size_push]
    have k3' : ∀ b o, s3.heap.get? b = some o → h'.get? b = some o := fun b o e => (hsb.2 b (Nat.ne_of_lt (Heap.lt_size e))).trans (Heap.get?_push_of_some _ e)
    have k35 : ∀ b o, s3.heap.get? b = some o → s5.heap.get? b = some o := fun b o e => by rw [h5]; exact Heap.get?_push_of_some _ (k3' b o e)
    have ga : s5.heap.get? h'.objs.size = some go := by
      rw [h5, ← hgo]
      exact Heap.get?_push_size _ rfl
    have gd : ∀ v, go.data ≠ .cell v := fun v z => by
      rw [← hgo] at z
      cases z
    have isg : ∀ {h6 : Heap}, h6.get? h'.objs.size = some go → h6.IsGen h'.objs.size s3.gens.size := fun e => ⟨go, _, _, e, by rw [← hgo], by rw [← hgo], by rw [← hgo]⟩
    have f3 : ∀ b ∈ fp, FpOk X pins H3 b ∧ b < s3.heap.objs.size := fun b hb => by
      obtain ⟨o, e, _⟩ := T.obj _ _ st2 b hb
      refine ⟨⟨?_, (f2 b hb).2⟩, Heap.lt_size (k23 b o (fpP b hb) e)⟩
      rw [htab.2 b (fpP b hb)]
      exact (f2 b hb).1
    have st5 : tn 0 s5.heap := T.keep _ _ _ st2 fun b hb o e => k35 b o (k23 b o (fpP b hb) e)
    have b5 : AllBare s5.gens := by
      rw [g5]
      exact I3.bare.push rfl
    have ns5 : s5.heap.Ns s3.heap.objs.size (fun y => if y = ".0" then some (Value.ref it) else none) := by
      rw [h5]
      exact hns.push _
    have I5 := gen_start (code := code) (c := genCode elt tg iter scope gpos it) I3 ok noc hN f3 (fun _ => rfl) k35 o5 b5 ns5 ga gd (by rw [sz']; exact Nat.lt_succ_self _)
    generalize hXg : genCx X s3 H3 scope (cloFrom X.env.cells scope.names []) s3.heap.objs.size code (genCode elt tg iter scope gpos it) fp = Xg at I5
    have pg : PG Xg tg g := by rw [← hXg]; exact hg _ _ _ _ _ _ _
    have pe : PE Xg elt te := by rw [← hXg]; exact he _ _ _ _ _ _ _
    have xP : Xg.prog = X.prog := by rw [← hXg]
    have xw : Xg.w = X.w := by rw [← hXg]
    have xK : Xg.K = X.K := by rw [← hXg]
    have xc : Xg.calm = true := by rw [← hXg]; exact hcalm
    have xA : Xg.A = X.A.in1.in1.over (.compLoop (.GeneratorExp elt [⟨tg, iter, [], 0⟩] scope gpos) 0 (.ref it) .none (genEnv scope (cloFrom X.env.cells scope.names []) s3.heap.objs.size code builtinsNs X.env)) [] := by rw [← hXg]
    have xE : Xg.env = genEnv scope (cloFrom X.env.cells scope.names []) s3.heap.objs.size code builtinsNs X.env := by rw [← hXg]
    have xe : Xg.xe = fun _ _ => False := by rw [← hXg]
    have xn : Xg.pn = [] := by rw [← hXg]
    have xex : Xg.ex = fp := by rw [← hXg]
    have fp5 : ∀ b ∈ fp, b ≠ h'.objs.size := fun b hb z => by
      have := (f3 b hb).2
      rw [z, sz'] at this
      exact absurd this (Nat.not_lt.mpr (Nat.le_succ _))
    have stat : ∀ {σ' : L2.St} {H' : Hp} {s' : Shared}, Inv Xg [(h'.objs.size, go)] σ' H' s' → (∀ b ∈ fp, H' b = none) → ∀ b ∈ fp, FpOk Xg [(h'.objs.size, go)] H' b := fun {σ' H' s'} I' hn b hb =>
      ⟨hn b hb, (I'.ok.exf b (by rw [xex]; exact hb)).1, I'.ok.exfs b (by rw [xex]; exact hb), .inl (by rw [xex]; exact hb), fun x c e => (I'.ok.exf b (by rw [xex]; exact hb)).2 x c e, fun p hp => by
        rw [xn, List.nil_append, List.mem_singleton] at hp
        rw [hp]
        exact (fp5 b hb).symm⟩
    have atg : ∀ {σ' : L2.St} {H' : Hp} {s' : Shared}, Inv Xg [(h'.objs.size, go)] σ' H' s' → s'.heap.get? h'.objs.size = some go := fun I' => (I'.pin (h'.objs.size, go) (List.mem_append_right _ List.mem_cons_self)).1
    -- back in the def
    have out : ∀ {σ' : L2.St} {H' : Hp} {s' s'' : Shared}, Inv Xg [(h'.objs.size, go)] σ' H' s' → s''.os = s'.os → AllBare s''.gens → (∀ b o, s'.heap.get? b = some o → s''.heap.get? b = some o) → Inv X pins σ H' s'' := fun {σ' H' s' s''} I' ho hb hk => by
      have un := I'.base
      have os' := I'.os
      have ok' := I'.hok
      rw [← hXg] at un os' ok'
      exact I3.call' (ch := fp) (ho.trans os') (un.trans (Un.kept hk)) (ok'.kept hk) hb fun b hb => ⟨(f3 b hb).1.2.2.2.1, (f3 b hb).1.2.1, (f3 b hb).1.2.2.2.2.1, (f3 b hb).1.2.2.2.2.2⟩
    refine hQ h'.objs.size s3.gens.size (m0 + 1) s5 (fun s' => ∃ σ' H', Inv Xg [(h'.objs.size, go)] σ' H' s' ∧ Q (.bl (!brk)) H')
      (fun k v s' => ∃ b σ' H', v = .bool b ∧ Inv Xg [(h'.objs.size, go)] σ' H' s' ∧ (b ≠ brk → ∃ i k', k' < k ∧ Inv Xg [(h'.objs.size, go)] (wipe σ (own.map (·.2))) H' s' ∧ tn i s'.heap ∧ (∀ b ∈ fp, H' b = none) ∧ W i k' H') ∧ (b = brk → Q (.bl brk) H'))
      (fun k v s' hy => ?_) (fun s' h6 hf hk => ?_) (fun k s' gs' hy hb => ?_) ⟨isg ga, I5.nolimit, .fresh (.compStart (.GeneratorExp elt [⟨tg, iter, [], 0⟩] scope gpos) 0 (.ref it) .none (genEnv scope (cloFrom X.env.cells scope.names []) s3.heap.objs.size code builtinsNs X.env)), by rw [g5]; exact Array.getElem?_push_size .., rfl, ?_⟩
    · obtain ⟨b, σ', H', rfl, I', _⟩ := hy
      exact ⟨⟨b, rfl⟩, I'.bare, I'.nolimit, isg (atg I')⟩
    · obtain ⟨σ', H', I', qf⟩ := hf
      exact ⟨.bl (!brk), H', out I' rfl (allBare_setGen I'.bare rfl) hk, rfl, qf⟩
    · obtain ⟨b, σ', H', hv, I', _, qb⟩ := hy
      cases hv
      exact ⟨.bl brk, H', out I' rfl (allBare_setGen I'.bare hb) (fun _ _ e => e), rfl, qb rfl⟩
    · -- the loop
      have run0 : Still s5 (s5.setGen s3.gens.size .running) := ⟨rfl, allBare_setGen b5 rfl, rfl⟩
      refine seg_startJ (fun A' Q E hq => T.self A' 0 _ Q E st5 hq) ?_
      refine seg_loopJ (J := fun k s' => ∃ i H', Inv Xg [(h'.objs.size, go)] (wipe σ (own.map (·.2))) H' s' ∧ tn i s'.heap ∧ (∀ b ∈ fp, H' b = none) ∧ W i k H') (Sl := On brk) hco (fun k s' hJ => ?_) (fun k y s' s'' hy hst => ?_) (m0 + 1) m0 _ _ (Nat.lt_succ_self _)
        ⟨0, H3, inv_still I5 run0, by rw [run0.heap]; exact st5, fun b hb => (f3 b hb).1.1, w0⟩
      · obtain ⟨i, H', I', st', n', w'⟩ := hJ
        have T' : Turn Xg.prog Xg.w Xg.K tg J fp it tn := by
          rw [xP, xw, xK]
          exact T
        rw [← xP, ← xw, ← xA, ← xE]
        rcases turn i k H' w' with ⟨stop, qq⟩ | ⟨go', Nx, hNx, step⟩
        · refine thnF (T'.done Xg rfl rfl rfl xc i _ s' _ H' (fun _ _ => False) I' (stat I' n') st' stop) fun r s6 ⟨hr, I6⟩ => ?_
          subst hr
          exact ⟨_, H', I6, qq⟩
        · refine thnF (T'.item Xg rfl rfl rfl xc i _ s' _ H' (fun _ _ => False) I' (stat I' n') st' go') fun r s6 ⟨u, hr, h6⟩ => ?_
          subst hr
          refine thnF h6 fun _ s7 ⟨x, H7, I7, r7, y7, st7, n7⟩ => ?_
          have I7' := I7.pinned (stat I7 n7) (T.obj _ _ st7)
          refine wpAny_mono (pg.run _ s7 _ H7 x u _ I7' r7 (step x H7 y7)) (fun _ s8 ⟨σ8, H8, I8, hw8, q8⟩ => ?_) fun _ _ z => by rw [xe] at z; exact z
          refine wpAny_mono (pe.run _ s8 σ8 H8 _ I8 q8) (fun z s9 ⟨yv, H9, I9, r9, b, hb, q1, q2⟩ => ?_) fun _ _ z => by rw [xe] at z; exact z
          subst hb
          have ez : z = Value.bool b := r9
          refine ⟨b, σ8, H9, ez, I9.unpinned, fun hne => ?_, q2⟩
          obtain ⟨m', hm, w9⟩ := hNx H9 (q1 hne)
          have pin9 : ∀ b ∈ fp, ∀ o, s7.heap.get? b = some o → s9.heap.get? b = some o ∧ H9 b = none := fun b hb o e =>
            let z := I9.pin (b, o) (List.mem_append_right _ (List.mem_append_right _ (mem_pinsAt hb e)))
            ⟨z.1, z.2.1⟩
          have hl : (wipe σ (own.map (·.2))).length = σ8.length := by rw [← hw8, wipe_length]
          refine ⟨i + 1, m', hm, (I9.unpinned).weak hl (fun j v e => ?_), T.keep _ _ _ st7 fun b hb o e => (pin9 b hb o e).1, fun b hb => ?_, w9⟩
          · rw [← hw8] at e
            exact (wipe_some e).1
          · obtain ⟨o, e, _⟩ := T.obj _ _ st7 b hb
            exact (pin9 b hb o e).2
      · obtain ⟨b, σ', H', hv, _, q1, _⟩ := hy
        obtain ⟨ev, st⟩ := hst
        rw [hv] at ev
        obtain ⟨i, k', hk, I', t', n', w'⟩ := q1 (fun z => by
          rw [z] at ev
          cases brk <;> cases ev)
        exact ⟨k', hk, i, H', inv_still I' st, by rw [st.heap]; exact t', n', w'⟩
  cases hf : codeAmong gpos ps.toList with
  | none =>
    refine wpAny_genexprCodeX hcode (cd.code hPs ht) (cd.tab hPs) hf fun c' h3 tk hx _ _ hco' _ htab' _ => ?_
    obtain ⟨_, _, _, _, _, _, _, _, _, _, _, _, _, _, _, _, _, _, _, htr, _⟩ := hco'
    have k23 : ∀ b o, b ≠ P → s2.heap.get? b = some o → h3.get? b = some o := fun b o hb e => hx b o hb e
    exact cont _ _ _ (inv_tab (g' := s2.gens) (d' := s2.drawn) (t' := tk) I2 hP k23 htab'.2 I2.bare) ⟨⟨_, upd_same, htr⟩, fun b hb => upd_ne hb⟩ k23
  | some cv =>
    refine wpAny_genexprCode_hit hcode (cd.code hPs ht) hf ?_
    exact cont cv s2 H2 I2 ⟨⟨ps, hP, ht⟩, fun _ _ => rfl⟩ fun _ _ _ e => e
end
end GXX
namespace GXX
open PySem PySem.Spec PyProof.Rows L2 GenW GxR
section
variable {X : Cx} {c0 P : Addr} {elt iter tg : Expr} {scope : Scope} {p gpos pos : Pos} {own : List (Str × Nat)} {wi : TI} {g : TG} {te : TE} {k : Nat}
/-- all(elt for tg in iter) -/
theorem pe_genAll (hcalm : X.calm = true) (hr : Room k X.A) (hgl : Gl X "all") (hm : X.mg "all" = none) (TB : TabB X.base X.mg c0 P) (hcode : X.env.code = .ref c0) (hN : X.N.Nodup) (hi : PI X tg iter wi) (ok : BlkOk X.N X.env.scope scope own)
    (noc : ∀ y ∈ scope.names, y.2 ≠ .cell) (hdot : scope.names.lookup (".0" : Str) = some NameKind.local) (hco : scope.isCoroutine = false)
    (hg : ∀ (s : Shared) (H : Hp) (cl : List (Str × Addr)) (C : Addr) (code : Value) (it : Addr) (fp : List Addr), PG (genCx X s H scope cl C code (genCode elt tg iter scope gpos it) fp) tg g)
    (he : ∀ (s : Shared) (H : Hp) (cl : List (Str × Addr)) (C : Addr) (code : Value) (it : Addr) (fp : List Addr), PE (genCx X s H scope cl C code (genCode elt tg iter scope gpos it) fp) elt te)
    (hs : ∀ v, genFold iter X.env v = pure v := by intro _; rfl)
    (he0 : starEach [.GeneratorExp elt [⟨tg, iter, [], 0⟩] scope gpos] X.env = (false, eval (.GeneratorExp elt [⟨tg, iter, [], 0⟩] scope gpos) X.env) :: starEach [] X.env := by rfl) :
    PE X (.Call (.Name "all" p) [.GeneratorExp elt [⟨tg, iter, [], 0⟩] scope gpos] [] pos) (tGen P wi g te (own.map (·.2)) false) := by
  refine ⟨fun pins s σ H Q I h => ?_⟩
  have hb : bootBuiltins "all" = some (.builtin "all") := by decide +kernel
  have hdp := hr.dp
  refine wpAny_Call_Name_kw (ld_blt I hgl hm hb ?_)
  refine PyProof.Rows.callWith_builtin1 ?_ he0 (by rfl)
  rw [he0]
  show wpAny _ _ (spliced ((false, eval (.GeneratorExp elt [⟨tg, iter, [], 0⟩] scope gpos) X.env) :: backTo pos (starEach [] X.env))) _ _ s
  refine Calls.spliced_cons (gen_made hcalm hr.hd (by omega) TB hcode hi ok noc hN hdot hco hg he hs I h fun a g0 n s5 Fn Yd hit hf hno hsl => ?_)
  refine Calls.spliced_nil ?_
  refine call_function_tree F.kind_all F.plain_all F.entry_all (F.args_all1 _) ?_
  unfold Builtin.«all»
  refine wpAny_bind (m := oneArg "all" _) (wpAny_pure ?_)
  refine wpAny_bind (wpAny_pyIter_gen hsl.1 ?_)
  exact wpAny_pure ⟨plainId_quiet F.plain_all_loop _, all_loopJ hr.hd (by omega) hit hf hno n s5 hsl⟩
/-- any(elt for tg in iter) -/
theorem pe_genAny (hcalm : X.calm = true) (hr : Room k X.A) (hgl : Gl X "any") (hm : X.mg "any" = none) (TB : TabB X.base X.mg c0 P) (hcode : X.env.code = .ref c0) (hN : X.N.Nodup) (hi : PI X tg iter wi) (ok : BlkOk X.N X.env.scope scope own)
    (noc : ∀ y ∈ scope.names, y.2 ≠ .cell) (hdot : scope.names.lookup (".0" : Str) = some NameKind.local) (hco : scope.isCoroutine = false)
    (hg : ∀ (s : Shared) (H : Hp) (cl : List (Str × Addr)) (C : Addr) (code : Value) (it : Addr) (fp : List Addr), PG (genCx X s H scope cl C code (genCode elt tg iter scope gpos it) fp) tg g)
    (he : ∀ (s : Shared) (H : Hp) (cl : List (Str × Addr)) (C : Addr) (code : Value) (it : Addr) (fp : List Addr), PE (genCx X s H scope cl C code (genCode elt tg iter scope gpos it) fp) elt te)
    (hs : ∀ v, genFold iter X.env v = pure v := by intro _; rfl)
    (he0 : starEach [.GeneratorExp elt [⟨tg, iter, [], 0⟩] scope gpos] X.env = (false, eval (.GeneratorExp elt [⟨tg, iter, [], 0⟩] scope gpos) X.env) :: starEach [] X.env := by rfl) :
    PE X (.Call (.Name "any" p) [.GeneratorExp elt [⟨tg, iter, [], 0⟩] scope gpos] [] pos) (tGen P wi g te (own.map (·.2)) true) := by
  refine ⟨fun pins s σ H Q I h => ?_⟩
  have hb : bootBuiltins "any" = some (.builtin "any") := by decide +kernel
  have hdp := hr.dp
  refine wpAny_Call_Name_kw (ld_blt I hgl hm hb ?_)
  refine PyProof.Rows.callWith_builtin1 ?_ he0 (by rfl)
  rw [he0]
  show wpAny _ _ (spliced ((false, eval (.GeneratorExp elt [⟨tg, iter, [], 0⟩] scope gpos) X.env) :: backTo pos (starEach [] X.env))) _ _ s
  refine Calls.spliced_cons (gen_made hcalm hr.hd (by omega) TB hcode hi ok noc hN hdot hco hg he hs I h fun a g0 n s5 Fn Yd hit hf hno hsl => ?_)
  refine Calls.spliced_nil ?_
  refine call_function_tree F.kind_any F.plain_any F.entry_any (F.args_any1 _) ?_
  unfold Builtin.«any»
  refine wpAny_bind (m := oneArg "any" _) (wpAny_pure ?_)
  refine wpAny_bind (wpAny_pyIter_gen hsl.1 ?_)
  exact wpAny_pure ⟨plainId_quiet F.plain_any_loop _, any_loopJ hr.hd (by omega) hit hf hno n s5 hsl⟩
end
/-- a word over a tuple, for all(..): every turn's truth, each as its item asks -/
theorem gen_tup {K : PySem.W.Frag} {a : Addr} {xs : List V} {g : TG} {te : TE} {vs : List Nat} {σ : L2.St} {H1 : Hp} {brk : Bool} {Q : VK} (Pv : Nat → Hp → Prop) (h0 : Pv 0 H1) (hl : ∀ i H, i ≤ xs.length → Pv i H → SqT K H a xs)
    (hs : ∀ i x H, xs[i]? = some x → Pv i H → g x (wipe σ vs) H fun σ2 H2 => wipe σ2 vs = wipe σ vs ∧ te σ2 H2 fun y H3 => ∃ b, y = .bl b ∧ (b ≠ brk → Pv (i + 1) H3) ∧ (b = brk → Q (.bl brk) H3)) (hd : ∀ H, Pv xs.length H → Q (.bl (!brk)) H) :
    ∃ W : Nat → Nat → Hp → Prop, (∃ m, W 0 m H1) ∧ ∀ i m H, W i m H → ((Itt K a).stop i H ∧ Q (.bl (!brk)) H) ∨ ((Itt K a).go i H ∧ ∃ Nx : Hp → Prop, (∀ H', Nx H' → ∃ m', m' < m ∧ W (i + 1) m' H') ∧
      ∀ x H', (Itt K a).yld i H x H' → g x (wipe σ vs) H' fun σ2 H2 => wipe σ2 vs = wipe σ vs ∧ te σ2 H2 fun y H3 => ∃ b, y = .bl b ∧ (b ≠ brk → Nx H3) ∧ (b = brk → Q (.bl brk) H3)) := by
  refine ⟨fun i m H => m = xs.length - i ∧ i ≤ xs.length ∧ Pv i H, ⟨xs.length, (Nat.sub_zero _).symm, Nat.zero_le _, h0⟩, fun i m H hW => ?_⟩
  obtain ⟨hm, hi, p⟩ := hW
  subst hm
  have q := hl i H hi p
  by_cases hlt : i < xs.length
  · refine .inr ⟨⟨xs, xs[i], q, List.getElem?_eq_getElem hlt⟩, Pv (i + 1), fun H' p' => ⟨xs.length - (i + 1), by omega, rfl, hlt, p'⟩, fun x H' y => ?_⟩
    obtain ⟨e, y⟩ := y
    subst e
    exact hs i x _ (y xs q) p
  · have e : i = xs.length := by omega
    subst e
    exact .inl ⟨⟨xs, q, Nat.le_refl _⟩, hd H p⟩
/-- .. over a range -/
theorem gen_range {lo : Int} {n : Nat} {g : TG} {te : TE} {vs : List Nat} {σ : L2.St} {H1 : Hp} {brk : Bool} {Q : VK} (Pv : Nat → Hp → Prop) (h0 : Pv 0 H1)
    (hs : ∀ i H, i < n → Pv i H → g (.int (lo + i)) (wipe σ vs) H fun σ2 H2 => wipe σ2 vs = wipe σ vs ∧ te σ2 H2 fun y H3 => ∃ b, y = .bl b ∧ (b ≠ brk → Pv (i + 1) H3) ∧ (b = brk → Q (.bl brk) H3)) (hd : ∀ H, Pv n H → Q (.bl (!brk)) H) :
    ∃ W : Nat → Nat → Hp → Prop, (∃ m, W 0 m H1) ∧ ∀ i m H, W i m H → ((Itr lo n).stop i H ∧ Q (.bl (!brk)) H) ∨ ((Itr lo n).go i H ∧ ∃ Nx : Hp → Prop, (∀ H', Nx H' → ∃ m', m' < m ∧ W (i + 1) m' H') ∧
      ∀ x H', (Itr lo n).yld i H x H' → g x (wipe σ vs) H' fun σ2 H2 => wipe σ2 vs = wipe σ vs ∧ te σ2 H2 fun y H3 => ∃ b, y = .bl b ∧ (b ≠ brk → Nx H3) ∧ (b = brk → Q (.bl brk) H3)) := by
  refine ⟨fun i m H => m = n - i ∧ i ≤ n ∧ Pv i H, ⟨n, (Nat.sub_zero _).symm, Nat.zero_le _, h0⟩, fun i m H hW => ?_⟩
  obtain ⟨hm, hi, p⟩ := hW
  subst hm
  by_cases hlt : i < n
  · refine .inr ⟨hlt, Pv (i + 1), fun H' p' => ⟨n - (i + 1), by omega, rfl, hlt, p'⟩, fun x H' y => ?_⟩
    obtain ⟨e, y⟩ := y
    subst e y
    exact hs i _ hlt p
  · have e : i = n := by omega
    subst e
    exact .inl ⟨Nat.le_refl _, hd H p⟩
end GXX
namespace GXX
open PySem PySem.Spec PyProof.Rows L2 GenW GxR
/-- a def whose code object's place is known -/
structure FunC (K : PySem.W.Frag) (x qual : Str) (st : Stmt) (f : Addr) (fd : FuncData) (c : Addr) : Prop where
  ex : ∃ (oc : Value) (od : Option Addr) (kV doc pm : Value) (an : Option Addr) (ct : Value) (osl : Array (Option Value)),
    fd = PySem.W.fnOf x qual (defArgs st) (defBody st) (defScope st) .none kV doc pm an (.ref c) ct ∧ K.lookup f = some ⟨oc, od, .func fd, osl⟩ ∧ PySem.W.codeIn K (.ref c) qual = true
section
variable {P : Program} {w : World} {K : PySem.W.Frag} {mg : Str → Option Value} {base : Heap}
theorem FunC.ok {x qual : Str} {st : Stmt} {f c : Addr} {fd : FuncData} {N ps : List Str} {k : Nat} {sp : Sp} (F : FunC K x qual st f fd c) (S : FnScope N ps (defScope st)) (len : ∀ vs H Q E, sp vs H Q E → vs.length = ps.length)
    (hbody : ∀ (A : Around) (outer : List Env) (s : Shared) (H : Hp) (vs : List V) (Q : VK) (E : XK), Room k (A.deeper (envOfC qual (defScope st) s.heap.objs.size f (.ref c))) → sp vs H Q E →
      ∃ t, PSs (cxOf CX0 P w K mg base N qual (defScope st) f (.ref c) A outer s H E).nox (defBody st) t ∧ t { nx := fun _ H' => Q .non H', rt := Q } (start N vs) H) : FnOk P w K mg base CX0 (k + 1) f fd ps sp := by
  obtain ⟨oc, od, kV, doc, pm, an, ct, osl, e, lk, hcd⟩ := F.ex
  subst e
  refine fn_of lk hcd S len fun A outer s H vs Q E hr hsp => ?_
  obtain ⟨t, h1, h2⟩ := hbody A outer s H vs Q E hr hsp
  exact ⟨t, h1.nox, h2⟩
end
/-- the defs of the top with their code objects, whose tables are empty -/
def DefTabs (q : Program) (mg : Str → Option Value) (h : Heap) : Prop := ∀ d ∈ PyProof.Rows.recsOf q, ∃ a o fd c P, mg d.name = some (.ref a) ∧ h.get? a = some o ∧ o.data = .func fd ∧ fd.code = .ref c ∧ h.IsCode c P #[] ∧ h.TableAt c P #[]
theorem lookup_mem {α : Type} {a : Nat} {x : α} : ∀ {l : List (Nat × α)}, l.lookup a = some x → (a, x) ∈ l
  | (b, y) :: r, h => by
    rw [List.lookup_cons] at h
    by_cases e : a = b
    · rw [beq_iff_eq.mpr e] at h
      cases h
      rw [e]
      exact List.mem_cons_self
    · rw [beq_eq_false_iff_ne.mpr e] at h
      exact List.mem_cons_of_mem _ (lookup_mem h)
/-- no empty table stands in the written part -/
def noTab (K : PySem.W.Frag) : Bool := K.all fun q => match q.2.data with
  | .fields vs => vs.size != 0
  | _ => true
theorem noTab_lookup {K : PySem.W.Frag} {h : Heap} {P : Addr} (X : K.In h) (n : noTab K = true) (hp : h.get? P = some { cls := .none, data := .fields #[] }) : K.lookup P = none := by
  cases e : K.lookup P with
  | none => rfl
  | some o =>
    have e1 := X P o e
    rw [hp] at e1
    cases e1
    have m : (P, ({ cls := .none, data := .fields #[] } : Obj)) ∈ K := lookup_mem e
    have := List.all_eq_true.mp n _ m
    simp at this
/-- one def's code and table -/
theorem tab_one {q : Program} {K : PySem.W.Frag} {mg : Str → Option Value} {h : Heap} {x : Str} {f : Addr} {o : Obj} {fd : FuncData} (D : DefTabs q mg h) (X : K.In h) (n : noTab K = true) (hrec : ((PyProof.Rows.recsOf q).any fun e => e.name == x) = true) (hm : mg x = some (.ref f))
    (l : K.lookup f = some o) (hd : o.data = .func fd) : ∃ c P, fd.code = .ref c ∧ h.get? P = some { cls := .none, data := .fields #[] } ∧ K.lookup P = none ∧ PySem.W.CodeHd h c P := by
  obtain ⟨d, hd1, hd2⟩ := List.any_eq_true.mp hrec
  have hd2 : d.name = x := beq_iff_eq.mp hd2
  obtain ⟨a, o2, fd2, c, P, h1, h2, h3, h4, h5, h6⟩ := D d hd1
  rw [hd2, hm] at h1
  cases h1
  have h7 := X _ _ l
  rw [h7] at h2
  cases h2
  rw [hd] at h3
  cases h3
  exact ⟨c, P, h4, h6.2, noTab_lookup X n h6.2, PySem.W.CodeHd.of h5 h6⟩
theorem walk_tabs {l : PySem.W.OpenLaw} {n k : Nat} {q : Program} {loose : List Str} {XP : (Str → Option Value) → Heap → Prop} {YP : World → Heap → Prop} {d : DefRec} {K : Params → PySem.W.Frag} {CX : World → CXT} {x : Str}
    (hn : l.most = some n) (hn2 : n ≤ sizeLine) (hdf : d.params.defaults = []) (hr : Room k callerA) (hY : ∀ (w : World) (h : Heap), YP w h → (K w.params).In h)
    (F : ∀ (w : World) (mg : Str → Option Value) (fa : Addr) (h : Heap), YP w h → (K w.params).In h → h.Ns mainGlobals mg → mg d.name = some (.ref fa) → DefTabs q mg h → LamX.LawAtS l w (K w.params) (CX w) k n x mg fa h)
    (hCX : ∀ (w : World) (H : Hp) (s : Shared) (e : Value) (s' : Shared), CX w [] H s (fun _ _ _ => False) e s' → False) :
    PySem.W.WalkO q loose XP YP l.row.toRowW d [] (fun f vs => PySem.call f vs) := by
  refine Att.attach_callB hn hdf fun w s₀ s1 mg mb fa o pm cd doc a vs ns G Y ho hd hcd hmg hobj hints hlen hbits hg => ?_
  obtain ⟨fd, cs, sp, t1, t2, t3, t4, t5, t6⟩ := F w mg fa _ Y (hY w _ Y) G.T.g hmg G.T.tab
  exact LamX.law_callTs (hY w _ Y) G.T.g G.T.b G.T.builtins G.T.nolimit hg t1 t2 t3 G.T.bmain hobj hints (Nat.le_trans hlen hn2) hr t6 t4 (fun H hH hS => t5 H a ns hlen hbits hH hS) fun H e s' => hCX w H s1 e s'
end GXX
namespace V
open PySem L2
open C8 (pss_cut)
section
variable {X : Cx}
theorem kq_ix (K : PySem.W.Frag) (h : X.K = K) : IxR X (rIx K) := h ▸ ix_seq
theorem kq_ixL (K : PySem.W.Frag) (h : X.K = K) : IxR X (rIxL K) := h ▸ ix_list
theorem kq_ixT (K : PySem.W.Frag) (h : X.K = K) : IxR X (rIxT K) := h ▸ ix_tup
theorem kq_in (K : PySem.W.Frag) (h : X.K = K) : OpR X (compareOp .In) (rIn K false) := h ▸ op_in_seq
theorem kq_notIn (K : PySem.W.Frag) (h : X.K = K) : OpR X (compareOp .NotIn) (rIn K true) := h ▸ op_notIn_seq
theorem kq_len (K : PySem.W.Frag) (h : X.K = K) : CallR X (.builtin "len") (fun xs H Q => ∃ p ys, xs = [.ref p] ∧ (SqL K H p ys ∨ SqT K H p ys) ∧ Q (.int ys.length) H) := h ▸ call_len_seq
theorem kq_slA (K : PySem.W.Frag) (h : X.K = K) : SlR X (rSlA K) := h ▸ sl_tupA
theorem kq_catA (K : PySem.W.Frag) (h : X.K = K) : OpR X (binaryOp .Add) (rCatA K) := h ▸ op_catA
theorem kq_isi (K : PySem.W.Frag) (h : X.K = K) : CallR X (.builtin "isinstance") (rIsi K) := h ▸ call_isi
theorem kq_eqD (K : PySem.W.Frag) (h : X.K = K) (hu : X.A.units + 64 < cLine) : OpR X (compareOp .Eq) (rEqD K) := h ▸ op_eqD hu
theorem kq_neD (K : PySem.W.Frag) (h : X.K = K) (hu : X.A.units + 64 < cLine) : OpR X (compareOp .NotEq) (rNeD K) := h ▸ op_neD hu
end
/-! ### data -/
section
variable {K : PySem.W.Frag} {H H' : Hp} {v : V} {d : PyData}
def tyn : PyData → String
  | .none => "NoneType" | .bool _ => "bool" | .int _ => "int" | .str _ => "str" | .list _ => "list" | .tuple _ => "tuple" | .dict _ => "dict"
theorem tyxL {a : Addr} {xs : List V} (h : SqL K H a xs) : TyX K H (.ref a) (.type "list") := by
  rcases h with (h | ⟨o, h⟩) | ⟨o, its, n, h, c, _⟩
  · exact .base (.lst h)
  · exact .base (.frz h)
  · exact .kList h c
theorem tyxT {a : Addr} {xs : List V} (h : SqT K H a xs) : TyX K H (.ref a) (.type "tuple") := by
  rcases h with (h | ⟨o, h⟩) | ⟨o, its, n, h, c, _⟩
  · exact .base (.tup h)
  · exact .fTuple h
  · exact .kTuple h c
theorem tyx (h : Dp K H v d) : TyX K H v (.type (tyn d)) := by
  cases h with
  | non => exact .base .non
  | bl b => exact .base (.bl b)
  | int i => exact .base (.int i)
  | str x => exact .base (.str x)
  | lst h _ => exact tyxL h
  | tup h _ => exact tyxT h
theorem shS (x : Str) (h : PyData.strOk x = true := by decide +kernel) : SeqAt.shaped (.str x) = true := by
  simp [SeqAt.shaped, PyData.canLay0, PyData.depth, h]
theorem shI (x : Int) : SeqAt.shaped (.int x) = true := by first | rfl | simp [SeqAt.shaped, PyData.canLay0, PyData.depth]
theorem shB (x : Bool) : SeqAt.shaped (.bool x) = true := by first | rfl | simp [SeqAt.shaped, PyData.canLay0, PyData.depth]
theorem shN : SeqAt.shaped .none = true := by first | rfl | simp [SeqAt.shaped, PyData.canLay0, PyData.depth]
def isI : PyData → Bool | .int _ => true | .bool _ => true | _ => false
def isB : PyData → Bool | .bool _ => true | _ => false
def isS : PyData → Bool | .str _ => true | _ => false
def isT : PyData → Bool | .tuple _ => true | _ => false
def isL : PyData → Bool | .list _ => true | _ => false
theorem kitI : ∀ d : PyData, PySem.W.kitOne K (.type (tyn d)) (.type "int") = some (isI d)
  | .none => kit_ty (a := "NoneType") (b := "int") (r := false) (by decide +kernel)
  | .bool _ => kit_ty (a := "bool") (b := "int") (r := true) (by decide +kernel)
  | .int _ => kit_ty (a := "int") (b := "int") (r := true) (by decide +kernel)
  | .str _ => kit_ty (a := "str") (b := "int") (r := false) (by decide +kernel)
  | .list _ => kit_ty (a := "list") (b := "int") (r := false) (by decide +kernel)
  | .tuple _ => kit_ty (a := "tuple") (b := "int") (r := false) (by decide +kernel)
  | .dict _ => kit_ty (a := "dict") (b := "int") (r := false) (by decide +kernel)
theorem kitBo : ∀ d : PyData, PySem.W.kitOne K (.type (tyn d)) (.type "bool") = some (isB d)
  | .none => kit_ty (a := "NoneType") (b := "bool") (r := false) (by decide +kernel)
  | .bool _ => kit_ty (a := "bool") (b := "bool") (r := true) (by decide +kernel)
  | .int _ => kit_ty (a := "int") (b := "bool") (r := false) (by decide +kernel)
  | .str _ => kit_ty (a := "str") (b := "bool") (r := false) (by decide +kernel)
  | .list _ => kit_ty (a := "list") (b := "bool") (r := false) (by decide +kernel)
  | .tuple _ => kit_ty (a := "tuple") (b := "bool") (r := false) (by decide +kernel)
  | .dict _ => kit_ty (a := "dict") (b := "bool") (r := false) (by decide +kernel)
theorem kitS : ∀ d : PyData, PySem.W.kitOne K (.type (tyn d)) (.type "str") = some (isS d)
  | .none => kit_ty (a := "NoneType") (b := "str") (r := false) (by decide +kernel)
  | .bool _ => kit_ty (a := "bool") (b := "str") (r := false) (by decide +kernel)
  | .int _ => kit_ty (a := "int") (b := "str") (r := false) (by decide +kernel)
  | .str _ => kit_ty (a := "str") (b := "str") (r := true) (by decide +kernel)
  | .list _ => kit_ty (a := "list") (b := "str") (r := false) (by decide +kernel)
  | .tuple _ => kit_ty (a := "tuple") (b := "str") (r := false) (by decide +kernel)
  | .dict _ => kit_ty (a := "dict") (b := "str") (r := false) (by decide +kernel)
theorem kitT : ∀ d : PyData, PySem.W.kitOne K (.type (tyn d)) (.type "tuple") = some (isT d)
  | .none => kit_ty (a := "NoneType") (b := "tuple") (r := false) (by decide +kernel)
  | .bool _ => kit_ty (a := "bool") (b := "tuple") (r := false) (by decide +kernel)
  | .int _ => kit_ty (a := "int") (b := "tuple") (r := false) (by decide +kernel)
  | .str _ => kit_ty (a := "str") (b := "tuple") (r := false) (by decide +kernel)
  | .list _ => kit_ty (a := "list") (b := "tuple") (r := false) (by decide +kernel)
  | .tuple _ => kit_ty (a := "tuple") (b := "tuple") (r := true) (by decide +kernel)
  | .dict _ => kit_ty (a := "dict") (b := "tuple") (r := false) (by decide +kernel)
theorem kitL : ∀ d : PyData, PySem.W.kitOne K (.type (tyn d)) (.type "list") = some (isL d)
  | .none => kit_ty (a := "NoneType") (b := "list") (r := false) (by decide +kernel)
  | .bool _ => kit_ty (a := "bool") (b := "list") (r := false) (by decide +kernel)
  | .int _ => kit_ty (a := "int") (b := "list") (r := false) (by decide +kernel)
  | .str _ => kit_ty (a := "str") (b := "list") (r := false) (by decide +kernel)
  | .list _ => kit_ty (a := "list") (b := "list") (r := true) (by decide +kernel)
  | .tuple _ => kit_ty (a := "tuple") (b := "list") (r := false) (by decide +kernel)
  | .dict _ => kit_ty (a := "dict") (b := "list") (r := false) (by decide +kernel)
def isInt (d : PyData) (lo hi : Int) : Bool := match d with | .int i => decide (lo ≤ i) && decide (i ≤ hi) | _ => false
end
/-! ### heaps, tuples -/
section
variable {K : PySem.W.Frag} {H H' : Hp} {v : V} {d : PyData}
/-- all that was tracked is as it was, tables of code may have grown -/
def Same (H H' : Hp) : Prop := (∀ b o, H b = some o → (∀ ps, o ≠ .tbl ps) → H' b = some o) ∧ ∀ b, GxR.TabG H b → GxR.TabG H' b
theorem Same.refl (H : Hp) : Same H H := ⟨fun _ _ h _ => h, fun _ h => h⟩
theorem Same.trans {H H1 H2 : Hp} (a : Same H H1) (b : Same H1 H2) : Same H H2 := ⟨fun c o h n => b.1 c o (a.1 c o h n) n, fun c h => b.2 c (a.2 c h)⟩
theorem Same.at {H H' : Hp} {b : Addr} {o : HO} (s : Same H H') (h : H b = some o) (n : ∀ ps, o ≠ .tbl ps := by intro ps z; cases z) : H' b = some o := s.1 b o h n
theorem Same.seq {K : PySem.W.Frag} {H H' : Hp} {a : Addr} {xs : List V} (e : Same H H') (h : SqL K H a xs) : SqL K H' a xs := by
  rcases h with (h | ⟨o, h⟩) | h
  · exact .inl (.inl (e.at h))
  · exact .inl (.inr ⟨o, e.at h⟩)
  · exact .inr h
theorem Same.tabbed {P : Addr} {H H' : Hp} (h : GxR.TabG H P) (t : GxR.Tabbed P H H') : Same H H' := by
  refine ⟨fun b o e n => ?_, fun b hb => ?_⟩
  · obtain ⟨ps, hp, _⟩ := h
    rw [t.2 b (fun z => by rw [z, hp] at e; exact n ps (Option.some.inj e).symm)]
    exact e
  · by_cases z : b = P
    · rw [z]
      exact t.1
    · obtain ⟨ps, hp, ht⟩ := hb
      exact ⟨ps, by rw [t.2 b z]; exact hp, ht⟩
/-- a new place -/
theorem same_fresh {H H1 : Hp} {p : Addr} {o : HO} (s : Same H H1) (h : H p = none) : Same H (upd H1 p o) := by
  refine ⟨fun b x e n => ?_, fun b hb => ?_⟩
  · rw [upd_ne (ne_of_none e h)]
    exact s.1 b x e n
  · obtain ⟨ps, hp, ht⟩ := hb
    obtain ⟨ps2, h2, t2⟩ := s.2 b ⟨ps, hp, ht⟩
    exact ⟨ps2, by rw [upd_ne (ne_of_none hp h)]; exact h2, t2⟩
theorem same_upd {p : Addr} {o : HO} (h : H p = none) : Same H (upd H p o) := same_fresh (Same.refl H) h
theorem Same.sqT {a : Addr} {xs : List V} (e : Same H H') (h : SqT K H a xs) : SqT K H' a xs := by
  rcases h with (h | ⟨o, h⟩) | h
  · exact .inl (.inl (e.at h))
  · exact .inl (.inr ⟨o, e.at h⟩)
  · exact .inr h
theorem DpAll.length : ∀ {xs : List V} {ds : List PyData}, DpAll K H xs ds → xs.length = ds.length
  | _, _, .nil => rfl
  | _, _, .cons _ t => by
    rw [List.length_cons, List.length_cons, DpAll.length t]
theorem DpAll.uncons {n : Nat} : ∀ {xs : List V} {ds : List PyData}, DpAll K H xs ds → xs.length = n + 1 → ∃ x xs' d ds', xs = x :: xs' ∧ ds = d :: ds' ∧ Dp K H x d ∧ DpAll K H xs' ds' ∧ xs'.length = n
  | _, _, .nil, h => nomatch h
  | _, _, .cons h t, e => ⟨_, _, _, _, rfl, rfl, h, t, Nat.succ.inj e⟩
theorem DpAll.empty {xs : List V} {ds : List PyData} (h : DpAll K H xs ds) (e : xs.length = 0) : xs = [] ∧ ds = [] := by
  cases h with
  | nil => exact ⟨rfl, rfl⟩
  | cons _ _ => cases e
mutual
theorem keepD (e : Same H H') : ∀ (d : PyData) (v : V), Dp K H v d → Dp K H' v d
  | .none, _, .non => .non
  | .bool _, _, .bl b => .bl b
  | .int _, _, .int i => .int i
  | .str _, _, .str x => .str x
  | .list ds, _, .lst h a => .lst (e.seq h) (keepDs e ds _ a)
  | .tuple ds, _, .tup h a => .tup (Same.sqT e h) (keepDs e ds _ a)
theorem keepDs (e : Same H H') : ∀ (ds : List PyData) (vs : List V), DpAll K H vs ds → DpAll K H' vs ds
  | [], _, .nil => .nil
  | d :: ds, _, .cons h t => .cons (keepD e d _ h) (keepDs e ds _ t)
end
theorem slA_ok {a : Addr} {xs : List V} {lo hi : Option Int} {Q : VK} (h : SqT K H a xs) (q : ∀ t H', Same H H' → SqT K H' t (cutV xs lo hi) → Q (.ref t) H') : rSlA K (.ref a) lo hi H Q := by
  refine ⟨a, xs, rfl, h, fun e => q _ _ (Same.refl _) ?_, fun _ p np => q _ _ (same_upd np) (.of upd_same)⟩
  have e2 : cutV xs lo hi = xs := by
    unfold cutV
    rw [e.1, e.2]
    simp
  rw [e2]
  exact h
theorem catA_ok {a b : Addr} {xs ys : List V} {Q : VK} (h1 : SqT K H a xs) (h2 : SqT K H b ys) (hl : xs.length + ys.length ≤ sizeLine) (q : ∀ t H', Same H H' → SqT K H' t (xs ++ ys) → Q (.ref t) H') : rCatA K (.ref a) (.ref b) H Q := by
  refine ⟨a, b, xs, ys, rfl, rfl, h1, h2, hl, fun e => q _ _ (Same.refl _) ?_, fun _ e => q _ _ (Same.refl _) ?_, fun _ _ p np => q _ _ (same_upd np) (.of upd_same)⟩
  · rw [e]
    exact h2
  · rw [e, List.append_nil]
    exact h1
theorem cut_from {xs : List V} {k : Nat} (hk : k ≤ xs.length) : cutV xs (some (k : Int)) none = xs.drop k := by
  unfold cutV
  rw [HT.sIx_nat, HT.sIx_none, Nat.min_eq_left hk]
  exact List.take_of_length_le (by rw [List.length_drop]; omega)
theorem cut_to {xs : List V} {k : Nat} (hk : k ≤ xs.length) : cutV xs none (some (k : Int)) = xs.take k := by
  unfold cutV
  rw [HT.sIx_nat, HT.sIx_none, Nat.min_eq_left hk]
  simp
theorem small {n : Nat} (h : n ≤ 1000) : n ≤ sizeLine := Nat.le_of_lt (small1000 h)
end
section
variable {K : PySem.W.Frag}
theorem DpAll.get {H : Hp} : ∀ {xs : List V} {ds : List PyData} {i : Nat} {d : PyData}, DpAll K H xs ds → ds[i]? = some d → ∃ x, xs[i]? = some x ∧ Dp K H x d
  | _, _, _, _, .nil, e => nomatch e
  | _, _, 0, _, .cons h _, e => by
    have e1 := Option.some.inj e
    subst e1
    exact ⟨_, rfl, h⟩
  | _, _, i + 1, _, .cons _ t, e => by
    obtain ⟨x, h1, h2⟩ := DpAll.get (i := i) t (by simpa using e)
    exact ⟨x, by simpa using h1, h2⟩
/-- data of at most so many levels, all lists and tuples short -/
def dep : Nat → PyData → Bool
  | 0, _ => false
  | n + 1, .list ds => decide (ds.length ≤ 1000) && ds.all (dep n)
  | n + 1, .tuple ds => decide (ds.length ≤ 1000) && ds.all (dep n)
  | _ + 1, .dict _ => false
  | _ + 1, _ => true
theorem ixL {H : Hp} {a : Addr} {xs : List V} {i : Int} {v : V} {Q : VK} (h : SqL K H a xs) (e : atI xs i = some v) (q : Q v H) : rIx K (.ref a) (.int i) H Q := .inl ⟨a, xs, i, v, rfl, rfl, h, e, q⟩
theorem ixT {H : Hp} {a : Addr} {xs : List V} {i : Int} {v : V} {Q : VK} (h : SqT K H a xs) (e : atI xs i = some v) (q : Q v H) : rIx K (.ref a) (.int i) H Q := .inr (.inl ⟨a, xs, i, v, rfl, rfl, h, e, q⟩)
/-! displays: what comes is the data, and what stood stands -/
def DE (K : PySem.W.Frag) (σ : St) (H : Hp) (te : TE) (d : PyData) : Prop := ∀ H1, Same H H1 → ∀ Q : VK, (∀ v H2, Same H1 H2 → Dp K H2 v d → Q v H2) → te σ H1 Q
def DA (K : PySem.W.Frag) (σ : St) (H : Hp) (ta : TA) (ds : List PyData) : Prop := ∀ H1, Same H H1 → ∀ Q : List V → Hp → Prop, (∀ vs H2, Same H1 H2 → DpAll K H2 vs ds → Q vs H2) → ta σ H1 Q
section
variable {σ : St} {H : Hp} {te : TE} {ta : TA} {d : PyData} {ds : List PyData} {v : V} {i : Nat}
theorem de_int {z : Int} : DE K σ H (tC (.int z)) (.int z) := fun _ _ _ k => k _ _ (Same.refl _) (.int z)
theorem de_neg {z : Int} : DE K σ H (tUn (rU fun i => .int (-i)) (tC (.int z))) (.int (-z)) := fun _ _ _ k => ⟨z, rfl, k _ _ (Same.refl _) (.int (-z))⟩
theorem de_bl {b : Bool} : DE K σ H (tC (.bl b)) (.bool b) := fun _ _ _ k => k _ _ (Same.refl _) (.bl b)
theorem de_str {x : Str} : DE K σ H (tC (.str x)) (.str x) := fun _ _ _ k => k _ _ (Same.refl _) (.str x)
theorem de_non : DE K σ H (tC .non) .none := fun _ _ _ k => k _ _ (Same.refl _) .non
theorem de_var (e : σ[i]? = some (some v)) (h : Dp K H v d) : DE K σ H (tVar i) d := fun _ s _ k => ⟨v, e, k _ _ (Same.refl _) (keepD s _ _ h)⟩
theorem da_nil : DA K σ H tNil [] := fun _ _ _ k => k _ _ (Same.refl _) .nil
theorem da_cons (h : DE K σ H te d) (t : DA K σ H ta ds) : DA K σ H (tCons te ta) (d :: ds) := fun H1 s Q k =>
  h H1 s _ fun v H2 s2 hv => t H2 (s.trans s2) _ fun vs H3 s3 ha => k _ _ (s2.trans s3) (.cons (keepD s3 _ _ hv) ha)
theorem de_tup (h : DA K σ H ta ds) (hl : ds.length ≤ 1000 := by first | decide | (simp only [List.length_cons, List.length_nil]; decide)) : DE K σ H (tTup ta) (.tuple ds) := fun H1 s Q k =>
  h H1 s _ fun vs H2 s2 ha => ⟨small (by rw [DpAll.length ha]; exact hl), fun p np => k _ _ (s2.trans (same_upd np)) (.tup (.of upd_same) (keepDs (same_upd np) _ _ ha))⟩
theorem de_lst (h : DA K σ H ta ds) (hl : ds.length ≤ 1000 := by first | decide | (simp only [List.length_cons, List.length_nil]; decide)) : DE K σ H (tLst ta) (.list ds) := fun H1 s Q k =>
  h H1 s _ fun vs H2 s2 ha => ⟨small (by rw [DpAll.length ha]; exact hl), fun p np => k _ _ (s2.trans (same_upd np)) (.lst (.of upd_same) (keepDs (same_upd np) _ _ ha))⟩
/-- a list that may be written: its place -/
theorem dl_lst (h : DA K σ H ta ds) (Q : VK) (k : ∀ p vs H2, Same H H2 → H2 p = some (.lst vs) → DpAll K H2 vs ds → Q (.ref p) H2) (hl : ds.length ≤ 1000 := by first | decide | (simp only [List.length_cons, List.length_nil]; decide)) : tLst ta σ H Q :=
  h H (Same.refl _) _ fun vs H2 s2 ha => ⟨small (by rw [DpAll.length ha]; exact hl), fun p np => k _ _ _ (s2.trans (same_upd np)) upd_same (keepDs (same_upd np) _ _ ha)⟩
theorem DpAll.append {H : Hp} : ∀ {xs ys : List V} {ds es : List PyData}, DpAll K H xs ds → DpAll K H ys es → DpAll K H (xs ++ ys) (ds ++ es)
  | _, _, _, _, .nil, h => h
  | _, _, _, _, .cons h t, u => .cons h (DpAll.append t u)
theorem DpAll.take {H : Hp} : ∀ {xs : List V} {ds : List PyData} (n : Nat), DpAll K H xs ds → DpAll K H (xs.take n) (ds.take n)
  | _, _, 0, _ => by
    rw [List.take_zero, List.take_zero]
    exact .nil
  | _, _, _ + 1, .nil => .nil
  | _, _, n + 1, .cons h t => .cons h (DpAll.take n t)
theorem DpAll.drop {H : Hp} : ∀ {xs : List V} {ds : List PyData} (n : Nat), DpAll K H xs ds → DpAll K H (xs.drop n) (ds.drop n)
  | _, _, 0, h => h
  | _, _, _ + 1, .nil => .nil
  | _, _, n + 1, .cons _ t => DpAll.drop n t
theorem cat_ok {a b : Addr} {xs ys : List V} {Q : VK} (h1 : H a = some (.lst xs)) (h2 : H b = some (.lst ys)) (hl : xs.length + ys.length ≤ sizeLine) (q : ∀ p H', Same H H' → H' p = some (.lst (xs ++ ys)) → Q (.ref p) H') : rCat (.ref a) (.ref b) H Q :=
  ⟨a, b, xs, ys, rfl, rfl, h1, h2, hl, fun p np => q _ _ (same_upd np) upd_same⟩
end
end
/-! ### the text by places -/
def top (i : Nat) : Stmt := PySem.Challenge.pw_allsomeno_k01_forms_of_sentences.main.body.getD i (.Pass ⟨0, 0, 0, 0⟩)
abbrev sis_integer : Stmt := top 6
abbrev Nis_integer : List Str := ["value", "least", "most"]
theorem scis_integer : FnScope Nis_integer ["value", "least", "most"] (defScope sis_integer) := ⟨rfl, rfl, rfl, by decide +kernel, rfl, by decide +kernel, by decide +kernel⟩
abbrev sis_noun : Stmt := top 7
abbrev Nis_noun : List Str := ["signature", "value"]
theorem scis_noun : FnScope Nis_noun ["signature", "value"] (defScope sis_noun) := ⟨rfl, rfl, rfl, by decide +kernel, rfl, by decide +kernel, by decide +kernel⟩
abbrev sis_verb : Stmt := top 8
abbrev Nis_verb : List Str := ["signature", "value"]
theorem scis_verb : FnScope Nis_verb ["signature", "value"] (defScope sis_verb) := ⟨rfl, rfl, rfl, by decide +kernel, rfl, by decide +kernel, by decide +kernel⟩
abbrev sis_signature : Stmt := top 9
abbrev Nis_signature : List Str := ["value"]
theorem scis_signature : FnScope Nis_signature ["value"] (defScope sis_signature) := ⟨rfl, rfl, rfl, by decide +kernel, rfl, by decide +kernel, by decide +kernel⟩
abbrev sis_sentence : Stmt := top 10
abbrev Nis_sentence : List Str := ["signature", "value"]
theorem scis_sentence : FnScope Nis_sentence ["signature", "value"] (defScope sis_sentence) := ⟨rfl, rfl, rfl, by decide +kernel, rfl, by decide +kernel, by decide +kernel⟩
abbrev s_is_verb_sentence : Stmt := top 11
abbrev N_is_verb_sentence : List Str := ["signature", "value", "_", "q", "x", "does", "v", "by", "p", "y"]
theorem sc_is_verb_sentence : FnScope N_is_verb_sentence ["signature", "value"] (defScope s_is_verb_sentence) := ⟨rfl, rfl, rfl, by decide +kernel, rfl, by decide +kernel, by decide +kernel⟩
abbrev s_is_self_sentence : Stmt := top 12
abbrev N_is_self_sentence : List Str := ["signature", "value", "_", "q", "x", "does", "v"]
theorem sc_is_self_sentence : FnScope N_is_self_sentence ["signature", "value"] (defScope s_is_self_sentence) := ⟨rfl, rfl, rfl, by decide +kernel, rfl, by decide +kernel, by decide +kernel⟩
abbrev sare_premises : Stmt := top 13
abbrev Nare_premises : List Str := ["signature", "value", "one"]
theorem scare_premises : FnScope Nare_premises ["signature", "value"] (defScope sare_premises) := ⟨rfl, rfl, rfl, by decide +kernel, rfl, by decide +kernel, by decide +kernel⟩
abbrev s_law_stream : Stmt := top 15
abbrev N_law_stream : List Str := ["script"]
theorem sc_law_stream : FnScope N_law_stream ["script"] (defScope s_law_stream) := ⟨rfl, rfl, rfl, by decide +kernel, rfl, by decide +kernel, by decide +kernel⟩
abbrev s_law_next : Stmt := top 16
abbrev N_law_next : List Str := ["stream", "many", "k", "cell", "digit"]
theorem sc_law_next : FnScope N_law_next ["stream", "many"] (defScope s_law_next) := ⟨rfl, rfl, rfl, by decide +kernel, rfl, by decide +kernel, by decide +kernel⟩
abbrev s_law_is_integer : Stmt := top 17
abbrev N_law_is_integer : List Str := ["actual"]
theorem sc_law_is_integer : FnScope N_law_is_integer ["actual"] (defScope s_law_is_integer) := ⟨rfl, rfl, rfl, by decide +kernel, rfl, by decide +kernel, by decide +kernel⟩
abbrev s_law_equal : Stmt := top 18
abbrev N_law_equal : List Str := ["actual", "due", "at"]
theorem sc_law_equal : FnScope N_law_equal ["actual", "due"] (defScope s_law_equal) := ⟨rfl, rfl, rfl, by decide +kernel, rfl, by decide +kernel, by decide +kernel⟩
abbrev s_law_pick : Stmt := top 19
abbrev N_law_pick : List Str := ["stream", "rows"]
theorem sc_law_pick : FnScope N_law_pick ["stream", "rows"] (defScope s_law_pick) := ⟨rfl, rfl, rfl, by decide +kernel, rfl, by decide +kernel, by decide +kernel⟩
abbrev s_law_signature : Stmt := top 20
abbrev N_law_signature : List Str := ["stream"]
theorem sc_law_signature : FnScope N_law_signature ["stream"] (defScope s_law_signature) := ⟨rfl, rfl, rfl, by decide +kernel, rfl, by decide +kernel, by decide +kernel⟩
abbrev s_law_sentence : Stmt := top 21
abbrev N_law_sentence : List Str := ["stream", "signature", "nouns", "verbs", "x", "y", "word", "quantity", "does", "verb"]
theorem sc_law_sentence : FnScope N_law_sentence ["stream", "signature"] (defScope s_law_sentence) := ⟨rfl, rfl, rfl, by decide +kernel, rfl, by decide +kernel, by decide +kernel⟩
abbrev s_law_bad : Stmt := top 22
abbrev N_law_bad : List Str := ["stream", "signature", "sentence", "at", "kind", "rows", "wrong"]
theorem sc_law_bad : FnScope N_law_bad ["stream", "signature", "sentence"] (defScope s_law_bad) := ⟨rfl, rfl, rfl, by decide +kernel, rfl, by decide +kernel, by decide +kernel⟩
abbrev slaw : Stmt := top 23
abbrev Nlaw : List Str := ["script", "stream", "signature", "sentence", "premises", "at", "bad", "wrong", "odd", "told", "turn"]
theorem sclaw : FnScope Nlaw ["script"] (defScope slaw) := ⟨rfl, rfl, rfl, by decide +kernel, rfl, by decide +kernel, by decide +kernel⟩
/-! ### what the top has written -/
structure Txt (K : PySem.W.Frag) (mg : Str → Option Value) where
  f_is_integer : Addr
  d_is_integer : FuncData
  F_is_integer : Fun K "is_integer" "is_integer" sis_integer f_is_integer d_is_integer
  g_is_integer : mg "is_integer" = some (.ref f_is_integer)
  b_is_integer : Binds K d_is_integer ["value", "least", "most"] []
  f_is_noun : Addr
  d_is_noun : FuncData
  F_is_noun : Fun K "is_noun" "is_noun" sis_noun f_is_noun d_is_noun
  g_is_noun : mg "is_noun" = some (.ref f_is_noun)
  b_is_noun : Binds K d_is_noun ["signature", "value"] []
  f_is_verb : Addr
  d_is_verb : FuncData
  F_is_verb : Fun K "is_verb" "is_verb" sis_verb f_is_verb d_is_verb
  g_is_verb : mg "is_verb" = some (.ref f_is_verb)
  b_is_verb : Binds K d_is_verb ["signature", "value"] []
  f_is_signature : Addr
  d_is_signature : FuncData
  F_is_signature : Fun K "is_signature" "is_signature" sis_signature f_is_signature d_is_signature
  g_is_signature : mg "is_signature" = some (.ref f_is_signature)
  b_is_signature : Binds K d_is_signature ["value"] []
  f_is_sentence : Addr
  d_is_sentence : FuncData
  F_is_sentence : Fun K "is_sentence" "is_sentence" sis_sentence f_is_sentence d_is_sentence
  g_is_sentence : mg "is_sentence" = some (.ref f_is_sentence)
  b_is_sentence : Binds K d_is_sentence ["signature", "value"] []
  f__is_verb_sentence : Addr
  d__is_verb_sentence : FuncData
  F__is_verb_sentence : Fun K "_is_verb_sentence" "_is_verb_sentence" s_is_verb_sentence f__is_verb_sentence d__is_verb_sentence
  g__is_verb_sentence : mg "_is_verb_sentence" = some (.ref f__is_verb_sentence)
  b__is_verb_sentence : Binds K d__is_verb_sentence ["signature", "value"] []
  f__is_self_sentence : Addr
  d__is_self_sentence : FuncData
  F__is_self_sentence : Fun K "_is_self_sentence" "_is_self_sentence" s_is_self_sentence f__is_self_sentence d__is_self_sentence
  g__is_self_sentence : mg "_is_self_sentence" = some (.ref f__is_self_sentence)
  b__is_self_sentence : Binds K d__is_self_sentence ["signature", "value"] []
  f_are_premises : Addr
  d_are_premises : FuncData
  F_are_premises : Fun K "are_premises" "are_premises" sare_premises f_are_premises d_are_premises
  g_are_premises : mg "are_premises" = some (.ref f_are_premises)
  b_are_premises : Binds K d_are_premises ["signature", "value"] []
  f__law_stream : Addr
  d__law_stream : FuncData
  F__law_stream : Fun K "_law_stream" "_law_stream" s_law_stream f__law_stream d__law_stream
  g__law_stream : mg "_law_stream" = some (.ref f__law_stream)
  b__law_stream : Binds K d__law_stream ["script"] []
  f__law_next : Addr
  d__law_next : FuncData
  F__law_next : Fun K "_law_next" "_law_next" s_law_next f__law_next d__law_next
  g__law_next : mg "_law_next" = some (.ref f__law_next)
  b__law_next : Binds K d__law_next ["stream", "many"] []
  f__law_is_integer : Addr
  d__law_is_integer : FuncData
  F__law_is_integer : Fun K "_law_is_integer" "_law_is_integer" s_law_is_integer f__law_is_integer d__law_is_integer
  g__law_is_integer : mg "_law_is_integer" = some (.ref f__law_is_integer)
  b__law_is_integer : Binds K d__law_is_integer ["actual"] []
  f__law_equal : Addr
  d__law_equal : FuncData
  F__law_equal : Fun K "_law_equal" "_law_equal" s_law_equal f__law_equal d__law_equal
  g__law_equal : mg "_law_equal" = some (.ref f__law_equal)
  b__law_equal : Binds K d__law_equal ["actual", "due"] []
  f__law_pick : Addr
  d__law_pick : FuncData
  F__law_pick : Fun K "_law_pick" "_law_pick" s_law_pick f__law_pick d__law_pick
  g__law_pick : mg "_law_pick" = some (.ref f__law_pick)
  b__law_pick : Binds K d__law_pick ["stream", "rows"] []
  f__law_signature : Addr
  d__law_signature : FuncData
  F__law_signature : Fun K "_law_signature" "_law_signature" s_law_signature f__law_signature d__law_signature
  g__law_signature : mg "_law_signature" = some (.ref f__law_signature)
  b__law_signature : Binds K d__law_signature ["stream"] []
  f__law_sentence : Addr
  d__law_sentence : FuncData
  F__law_sentence : Fun K "_law_sentence" "_law_sentence" s_law_sentence f__law_sentence d__law_sentence
  g__law_sentence : mg "_law_sentence" = some (.ref f__law_sentence)
  b__law_sentence : Binds K d__law_sentence ["stream", "signature"] []
  f__law_bad : Addr
  d__law_bad : FuncData
  F__law_bad : Fun K "_law_bad" "_law_bad" s_law_bad f__law_bad d__law_bad
  g__law_bad : mg "_law_bad" = some (.ref f__law_bad)
  b__law_bad : Binds K d__law_bad ["stream", "signature", "sentence"] []
  cc_are_premises : Addr
  pp_are_premises : Addr
  FC_are_premises : GXX.FunC K "are_premises" "are_premises" sare_premises f_are_premises d_are_premises cc_are_premises
  n_abs : mg "abs" = none
  n_all : mg "all" = none
  n_bool : mg "bool" = none
  n_int : mg "int" = none
  n_isinstance : mg "isinstance" = none
  n_len : mg "len" = none
  n_list : mg "list" = none
  n_range : mg "range" = none
  n_str : mg "str" = none
  n_tuple : mg "tuple" = none
  k_MOST_NOUNS : Tok
  c_MOST_NOUNS : mg "MOST_NOUNS" = some (.int 4 k_MOST_NOUNS)
  k_MOST_VERBS : Tok
  c_MOST_VERBS : mg "MOST_VERBS" = some (.int 2 k_MOST_VERBS)
  k_MOST_PREMISES : Tok
  c_MOST_PREMISES : mg "MOST_PREMISES" = some (.int 8 k_MOST_PREMISES)
  a_QUANTIFIERS : Addr
  c_QUANTIFIERS : mg "QUANTIFIERS" = some (.ref a_QUANTIFIERS)
  t_QUANTIFIERS : ∀ H : Hp, SqT K H a_QUANTIFIERS [.str "all", .str "some"]
  a_NOUN_WORDS : Addr
  c_NOUN_WORDS : mg "NOUN_WORDS" = some (.ref a_NOUN_WORDS)
  t_NOUN_WORDS : ∀ H : Hp, SqT K H a_NOUN_WORDS [.str "all", .str "some not", .str "no", .str "some", .str "as many", .str "fewer"]
/-! ### x in t, t a tuple of any data -/
theorem _root_.L2.Room.units2 {k : Nat} {A : Around} (hr : Room k A) : A.units + 65 < cLine := by
  have := hr.un
  omega
def inW (ds : List PyData) (d : PyData) : Bool := ds.any fun z => PyData.eqv z d
def rNotInT (K : PySem.W.Frag) : R2 := fun x y H Q => ∃ d ds, Dp K H x d ∧ Dp K H y (.tuple ds) ∧ SeqAt.shaped d = true ∧ SeqAt.shaped (.tuple ds) = true ∧ Q (.bl (!inW ds d)) H
def rInT (K : PySem.W.Frag) : R2 := fun x y H Q => ∃ d ds, Dp K H x d ∧ Dp K H y (.tuple ds) ∧ SeqAt.shaped d = true ∧ SeqAt.shaped (.tuple ds) = true ∧ Q (.bl (inW ds d)) H
section
variable {X : Cx}
theorem op_notInT (hu : X.A.units + 65 < cLine) : OpR X (compareOp .NotIn) (rNotInT X.K) := by
  intro pins s σ H x y v u Q I rx ry h
  obtain ⟨d, ds, hd, he, sd, se, q⟩ := h
  obtain ⟨as, r1⟩ := Dp.reads I d x v hd rx
  obtain ⟨bs, r2⟩ := Dp.reads I (.tuple ds) y u he ry
  exact SeqAt.notIn_tuple_reads r2 r1 (SeqAt.canLay_of_shaped se) (SeqAt.canLay_of_shaped sd) (PyProof.Rows.room_in_shaped sd hu) ⟨.bl _, H, I, rfl, q⟩
theorem op_inT (hu : X.A.units + 65 < cLine) : OpR X (compareOp .In) (rInT X.K) := by
  intro pins s σ H x y v u Q I rx ry h
  obtain ⟨d, ds, hd, he, sd, se, q⟩ := h
  obtain ⟨as, r1⟩ := Dp.reads I d x v hd rx
  obtain ⟨bs, r2⟩ := Dp.reads I (.tuple ds) y u he ry
  exact SeqAt.in_tuple_reads r2 r1 (SeqAt.canLay_of_shaped se) (SeqAt.canLay_of_shaped sd) (PyProof.Rows.room_in_shaped sd hu) ⟨.bl _, H, I, rfl, q⟩
end
def words : List PyData := [.str "all", .str "some not", .str "no", .str "some", .str "as many", .str "fewer"]
def quants : List PyData := [.str "all", .str "some"]
theorem sh_words : SeqAt.shaped (.tuple words) = true := by decide +kernel
theorem sh_quants : SeqAt.shaped (.tuple quants) = true := by decide +kernel
/-! ### what the program reckons -/
def isStr (d : PyData) (x : Str) : Bool := PyData.eqv d (.str x)
def Sig (K : PySem.W.Frag) (H : Hp) (v : V) (n m : Int) : Prop := ∃ a, v = .ref a ∧ SqT K H a [.int n, .int m]
theorem Sig.keep {K : PySem.W.Frag} {H H' : Hp} {v : V} {n m : Int} (e : Same H H') (h : Sig K H v n m) : Sig K H' v n m := by
  obtain ⟨a, rfl, h⟩ := h
  exact ⟨a, rfl, Same.sqT e h⟩
theorem Sig.dp {K : PySem.W.Frag} {H : Hp} {v : V} {n m : Int} (h : Sig K H v n m) : Dp K H v (.tuple [.int n, .int m]) := by
  obtain ⟨a, rfl, h⟩ := h
  exact .tup h (.cons (.int n) (.cons (.int m) .nil))
def isSig : PyData → Bool
  | .tuple [a, b] => isInt a 1 4 && isInt b 0 2
  | _ => false
def isVS (n m : Int) : List PyData → Bool
  | [_, q, x, d, v, b, p, y] => (inW quants q && inW quants p) && ((isB d && isB b) && (isInt x 0 (n - 1) && (isInt v 0 (m - 1) && isInt y 0 (n - 1))))
  | _ => false
def isSS (n m : Int) : List PyData → Bool
  | [_, q, x, d, v] => (inW quants q && isB d) && (isInt x 0 (n - 1) && isInt v 0 (m - 1))
  | _ => false
def isNS (n : Int) : List PyData → Bool
  | [w, x, y] => inW words w && (isInt x 0 (n - 1) && isInt y 0 (n - 1))
  | _ => false
def isSent (n m : Int) : PyData → Bool
  | .tuple (w :: r) => if isStr w "verb" = true then isVS n m (w :: r) else if isStr w "self" = true then isSS n m (w :: r) else isNS n (w :: r)
  | _ => false
def isPrem (n m : Int) : PyData → Bool
  | .tuple ds => decide (ds.length ≤ 8) && ds.all (isSent n m)
  | _ => false
/-- its items can be compared -/
def shs : PyData → Bool
  | .tuple ds => ds.all SeqAt.shaped
  | _ => true
def shss : PyData → Bool
  | .tuple ds => ds.all shs
  | _ => true
theorem isInt_int {d : PyData} {lo hi : Int} (h : isInt d lo hi = true) : ∃ i, d = .int i := by
  cases d with
  | int i => exact ⟨i, rfl⟩
  | _ => exact absurd h (by simp [isInt])
theorem and_step {A B : Bool} {H : Hp} {Q : VK} {R : Prop} (k : Q (.bl (A && B)) H) (h : Q (.bl B) H → R) : if A = true then R else Q (.bl false) H := by
  cases A with
  | true => exact iteT (h k)
  | false => exact iteF k
theorem and_step2 {A B : Bool} {H : Hp} {Q : VK} {R : Prop} (k : Q (.bl (A && B)) H) (h : A = true → Q (.bl B) H → R) : if A = true then R else Q (.bl false) H := by
  cases A with
  | true => exact iteT (h rfl k)
  | false => exact iteF k
theorem dp_int {K : PySem.W.Frag} {H : Hp} {v : V} {i : Int} (h : Dp K H v (.int i)) : v = .int i := by
  cases h
  rfl
theorem isSig_of {n m : Int} (h1 : 1 ≤ n) (h2 : n ≤ 4) (h3 : 0 ≤ m) (h4 : m ≤ 2) : isSig (.tuple [.int n, .int m]) = true := by
  show ((decide (1 ≤ n) && decide (n ≤ 4)) && (decide (0 ≤ m) && decide (m ≤ 2))) = true
  rw [decide_eq_true h1, decide_eq_true h2, decide_eq_true h3, decide_eq_true h4]
  rfl
theorem len_ne {xs : List V} {j : Nat} (h : xs.length ≠ j) : decide (V.int (xs.length : Int) = V.int (j : Int)) = false := decide_eq_false fun z => h (by have := V.int.inj z; omega)
section
variable {P : Program} {w : World} {K : PySem.W.Frag} {mg : Str → Option Value} {base : Heap}
def spInteger (K : PySem.W.Frag) : Sp := fun vs H Q _ => ∃ (v : V) (d : PyData) (lo hi : Int), vs = [v, .int lo, .int hi] ∧ Dp K H v d ∧ Q (.bl (isInt d lo hi)) H
theorem ok_is_integer (T : Txt K mg) : FnOk P w K mg base CX0 1 T.f_is_integer T.d_is_integer ["value", "least", "most"] (spInteger K) := by
  refine T.F_is_integer.ok scis_integer (fun vs H Q E h => ?_) (fun cdv A outer s H vs Q E hr h => ?_)
  · obtain ⟨v, d, lo, hi, rfl, _⟩ := h
    rfl
  · obtain ⟨v, d, lo, hi, rfl, hd, k⟩ := h
    refine ⟨_, (pss_one (ps_ret (pe_and (pe_callB call_isi (by rfl) T.n_isinstance (by decide +kernel) (pa_cons (pv 0) (pa_cons (pe_bltn (v := .ty "int") (by rfl) T.n_int (by decide +kernel) rfl) pa_nil))) (pe_and (pe_not (pe_callB call_isi (by rfl) T.n_isinstance (by decide +kernel) (pa_cons (pv 0) (pa_cons (pe_bltn (v := .ty "bool") (by rfl) T.n_bool (by decide +kernel) rfl) pa_nil)))) (pe_one (pe_chain op_le op_le (pv 1) (pv 0) (pv 2))))))), ?_⟩
    refine ⟨v, rfl, v, .ty "int", _, _, _, rfl, .ty _, tyx hd, kitI d, _, rfl, ?_⟩
    cases hd with
    | non => exact iteF k
    | str x => exact iteF k
    | lst _ _ => exact iteF k
    | tup _ _ => exact iteF k
    | bl b =>
      refine iteT ?_
      refine ⟨_, rfl, _, .ty "bool", _, _, _, rfl, .ty _, tyx (.bl b), kitBo _, _, rfl, _, rfl, ?_⟩
      exact iteF k
    | int i =>
      refine iteT ?_
      refine ⟨_, rfl, _, .ty "bool", _, _, _, rfl, .ty _, tyx (.int i), kitBo _, _, rfl, _, rfl, iteT ?_⟩
      refine ⟨_, rfl, _, rfl, _, _, rfl, rfl, _, rfl, ?_⟩
      by_cases h1 : lo ≤ i
      · rw [decide_eq_true h1]
        refine iteT ⟨_, rfl, _, _, rfl, rfl, ?_⟩
        have e : isInt (.int i) lo hi = decide (i ≤ hi) := by
          show (decide (lo ≤ i) && decide (i ≤ hi)) = _
          rw [decide_eq_true h1, Bool.true_and]
        rw [e] at k
        exact k
      · rw [decide_eq_false h1]
        have e : isInt (.int i) lo hi = false := by
          show (decide (lo ≤ i) && decide (i ≤ hi)) = _
          rw [decide_eq_false h1, Bool.false_and]
        rw [e] at k
        exact iteF k
def spNoun (K : PySem.W.Frag) : Sp := fun vs H Q _ => ∃ (v x : V) (d : PyData) (n m : Int), vs = [v, x] ∧ Sig K H v n m ∧ Dp K H x d ∧ Q (.bl (isInt d 0 (n - 1))) H
theorem ok_is_noun (T : Txt K mg) : FnOk P w K mg base CX0 2 T.f_is_noun T.d_is_noun ["signature", "value"] (spNoun K) := by
  have G_is_integer := ok_is_integer (P := P) (w := w) (base := base) T
  refine T.F_is_noun.ok scis_noun (fun vs H Q E h => ?_) (fun cdv A outer s H vs Q E hr h => ?_)
  · obtain ⟨v, x, d, n, m, rfl, _⟩ := h
    rfl
  · obtain ⟨v, x, d, n, m, rfl, ⟨a, rfl, ha⟩, hd, k⟩ := h
    refine ⟨_, (pss_one (ps_ret (pe_call G_is_integer (hr.mono (by decide)) (by rfl) T.g_is_integer T.F_is_integer.kp T.b_is_integer .nil pass0 (pa_cons (pv 1) (pa_cons pe_int (pa_cons (pe_op op_sub (pe_ix ix_tup (pv 0) pe_int (fun _ _ => rfl)) pe_int) pa_nil)))))), ?_⟩
    exact ⟨x, rfl, .ref a, rfl, a, _, _, _, rfl, rfl, ha, atI_nat (j := 0) rfl, _, _, rfl, rfl, x, d, 0, n - 1, rfl, hd, k⟩
def spVerb (K : PySem.W.Frag) : Sp := fun vs H Q _ => ∃ (v x : V) (d : PyData) (n m : Int), vs = [v, x] ∧ Sig K H v n m ∧ Dp K H x d ∧ Q (.bl (isInt d 0 (m - 1))) H
theorem ok_is_verb (T : Txt K mg) : FnOk P w K mg base CX0 2 T.f_is_verb T.d_is_verb ["signature", "value"] (spVerb K) := by
  have G_is_integer := ok_is_integer (P := P) (w := w) (base := base) T
  refine T.F_is_verb.ok scis_verb (fun vs H Q E h => ?_) (fun cdv A outer s H vs Q E hr h => ?_)
  · obtain ⟨v, x, d, n, m, rfl, _⟩ := h
    rfl
  · obtain ⟨v, x, d, n, m, rfl, ⟨a, rfl, ha⟩, hd, k⟩ := h
    refine ⟨_, (pss_one (ps_ret (pe_call G_is_integer (hr.mono (by decide)) (by rfl) T.g_is_integer T.F_is_integer.kp T.b_is_integer .nil pass0 (pa_cons (pv 1) (pa_cons pe_int (pa_cons (pe_op op_sub (pe_ix ix_tup (pv 0) pe_int (fun _ _ => rfl)) pe_int) pa_nil)))))), ?_⟩
    exact ⟨x, rfl, .ref a, rfl, a, _, _, _, rfl, rfl, ha, atI_nat (j := 1) rfl, _, _, rfl, rfl, x, d, 0, m - 1, rfl, hd, k⟩
def spSignature (K : PySem.W.Frag) : Sp := fun vs H Q _ => ∃ (v : V) (d : PyData), vs = [v] ∧ Dp K H v d ∧ Q (.bl (isSig d)) H
theorem ok_is_signature (T : Txt K mg) : FnOk P w K mg base CX0 2 T.f_is_signature T.d_is_signature ["value"] (spSignature K) := by
  have G_is_integer := ok_is_integer (P := P) (w := w) (base := base) T
  refine T.F_is_signature.ok scis_signature (fun vs H Q E h => ?_) (fun cdv A outer s H vs Q E hr h => ?_)
  · obtain ⟨v, d, rfl, _⟩ := h
    rfl
  · obtain ⟨v, d, rfl, hd, k⟩ := h
    refine ⟨_, (pss_cons (ps_if (PW.pt (pw_or (pt_not (pt_val (pe_callB call_isi (by rfl) T.n_isinstance (by decide +kernel) (pa_cons (pv 0) (pa_cons (pe_bltn (v := .ty "tuple") (by rfl) T.n_tuple (by decide +kernel) rfl) pa_nil))))) (pw_or1 (pt_cmpR op_ne (pe_callB call_len_seq (by rfl) T.n_len (by decide +kernel) (pa_cons (pv 0) pa_nil)) pe_int (nomark _))))) (pss_one (ps_ret pe_bl)) pss_nil)
      (pss_one (ps_ret (pe_and (pe_call G_is_integer (hr.mono (by decide)) (by rfl) T.g_is_integer T.F_is_integer.kp T.b_is_integer .nil pass0 (pa_cons (pe_ix ix_tup (pv 0) pe_int (fun _ _ => rfl)) (pa_cons pe_int (pa_cons (pe_glob (v := .int 4) rfl T.c_MOST_NOUNS ⟨_, rfl⟩) pa_nil)))) (pe_one (pe_call G_is_integer (hr.mono (by decide)) (by rfl) T.g_is_integer T.F_is_integer.kp T.b_is_integer .nil pass0 (pa_cons (pe_ix ix_tup (pv 0) pe_int (fun _ _ => rfl)) (pa_cons pe_int (pa_cons (pe_glob (v := .int 2) rfl T.c_MOST_VERBS ⟨_, rfl⟩) pa_nil))))))))), ?_⟩
    refine ⟨v, rfl, v, .ty "tuple", _, _, _, rfl, .ty _, tyx hd, kitT d, _, rfl, ?_⟩
    cases hd with
    | non => exact iteT (iteT k)
    | bl b => exact iteT (iteT k)
    | int i => exact iteT (iteT k)
    | str x => exact iteT (iteT k)
    | lst _ _ => exact iteT (iteT k)
    | @tup a xs ds hs ha =>
      refine iteF ⟨_, rfl, a, xs, rfl, .inr hs, rfl, _, rfl, ?_⟩
      have hl := DpAll.length ha
      by_cases h2 : xs.length = 2
      · rw [h2]
        refine iteF ?_
        cases ha with
        | nil => cases h2
        | @cons x xs2 d1 ds2 h1 ha2 =>
          cases ha2 with
          | nil => cases h2
          | @cons y xs3 d2 ds3 h3 ha3 =>
            cases ha3 with
            | cons _ _ => rw [List.length_cons, List.length_cons, List.length_cons] at h2; omega
            | nil =>
              refine ⟨_, rfl, a, _, _, x, rfl, rfl, hs, atI_nat (j := 0) rfl, x, d1, 1, 4, rfl, h1, _, rfl, ?_⟩
              by_cases q : isInt d1 1 4 = true
              · rw [q]
                refine iteT ⟨_, rfl, a, _, _, y, rfl, rfl, hs, atI_nat (j := 1) rfl, y, d2, 0, 2, rfl, h3, ?_⟩
                have e : isSig (.tuple [d1, d2]) = isInt d2 0 2 := by
                  show (isInt d1 1 4 && isInt d2 0 2) = _
                  rw [q, Bool.true_and]
                rw [e] at k
                exact k
              · rw [Bool.eq_false_iff.mpr q]
                have e : isSig (.tuple [d1, d2]) = false := by
                  show (isInt d1 1 4 && isInt d2 0 2) = _
                  rw [Bool.eq_false_iff.mpr q, Bool.false_and]
                rw [e] at k
                exact iteF k
      · have e0 : decide (V.int (xs.length : Int) = V.int 2) = false := decide_eq_false fun z => h2 (by have := V.int.inj z; omega)
        rw [e0]
        refine iteT ?_
        have e : isSig (.tuple ds) = false := by
          rw [hl] at h2
          match ds, h2 with
          | [], _ => rfl
          | [_], _ => rfl
          | [_, _], h => exact absurd rfl h
          | _ :: _ :: _ :: _, _ => rfl
        rw [e] at k
        exact k
end
section
variable {P : Program} {w : World} {K : PySem.W.Frag} {mg : Str → Option Value} {base : Heap}
def spItems (K : PySem.W.Frag) (f : Int → Int → List PyData → Bool) : Sp := fun vs H Q _ => ∃ (v : V) (n m : Int) (a : Addr) (xs : List V) (ds : List PyData), vs = [v, .ref a] ∧ Sig K H v n m ∧ SqT K H a xs ∧ DpAll K H xs ds ∧ ds.all SeqAt.shaped = true ∧ Q (.bl (f n m ds)) H
theorem or_step {A : Bool} {H : Hp} {Q : VK} {B : Bool} {R : Prop} (k : Q (.bl (A && B)) H) (h : A = true → Q (.bl B) H → R) : if (!A) = true then Q (.bl false) H else R := by
  cases A with
  | true => exact iteF (h rfl k)
  | false => exact iteT k
theorem ok__is_verb_sentence (T : Txt K mg) : FnOk P w K mg base CX0 3 T.f__is_verb_sentence T.d__is_verb_sentence ["signature", "value"] (spItems K isVS) := by
  have G_is_noun := ok_is_noun (P := P) (w := w) (base := base) T
  have G_is_verb := ok_is_verb (P := P) (w := w) (base := base) T
  refine T.F__is_verb_sentence.ok sc_is_verb_sentence (fun vs H Q E h => ?_) (fun cdv A outer s H vs Q E hr h => ?_)
  · obtain ⟨v, n, m, a, xs, ds, rfl, _⟩ := h
    rfl
  · obtain ⟨v, n, m, a, xs, ds, rfl, hs, ht, hd, sh, k⟩ := h
    refine ⟨_, (pss_cons (ps_if (pt_cmpR op_ne (pe_callB call_len_seq (by rfl) T.n_len (by decide +kernel) (pa_cons (pv 1) pa_nil)) pe_int (nomark _)) (pss_one (ps_ret pe_bl)) pss_nil)
      (pss_cons (ps_asg (pv 1) (pg_tup rfl (pgs_cons (pg_name (i := 2) sc_is_verb_sentence.nd rfl (Or.inl rfl)) (pgs_cons (pg_name (i := 3) sc_is_verb_sentence.nd rfl (Or.inl rfl)) (pgs_cons (pg_name (i := 4) sc_is_verb_sentence.nd rfl (Or.inl rfl)) (pgs_cons (pg_name (i := 5) sc_is_verb_sentence.nd rfl (Or.inl rfl)) (pgs_cons (pg_name (i := 6) sc_is_verb_sentence.nd rfl (Or.inl rfl)) (pgs_cons (pg_name (i := 7) sc_is_verb_sentence.nd rfl (Or.inl rfl)) (pgs_cons (pg_name (i := 8) sc_is_verb_sentence.nd rfl (Or.inl rfl)) (pgs_cons (pg_name (i := 9) sc_is_verb_sentence.nd rfl (Or.inl rfl)) pgs_nil))))))))))
      (pss_cons (ps_if (PW.pt (pw_or (pt_cmpR (op_notInT hr.units2) (pv 3) (pe_glob (v := .ref T.a_QUANTIFIERS) rfl T.c_QUANTIFIERS rfl) (by rfl)) (pw_or1 (pt_cmpR (op_notInT hr.units2) (pv 8) (pe_glob (v := .ref T.a_QUANTIFIERS) rfl T.c_QUANTIFIERS rfl) (by rfl))))) (pss_one (ps_ret pe_bl)) pss_nil)
      (pss_cons (ps_if (PW.pt (pw_or (pt_not (pt_val (pe_callB call_isi (by rfl) T.n_isinstance (by decide +kernel) (pa_cons (pv 5) (pa_cons (pe_bltn (v := .ty "bool") (by rfl) T.n_bool (by decide +kernel) rfl) pa_nil))))) (pw_or1 (pt_not (pt_val (pe_callB call_isi (by rfl) T.n_isinstance (by decide +kernel) (pa_cons (pv 7) (pa_cons (pe_bltn (v := .ty "bool") (by rfl) T.n_bool (by decide +kernel) rfl) pa_nil)))))))) (pss_one (ps_ret pe_bl)) pss_nil)
      (pss_one (ps_ret (pe_and (pe_call G_is_noun (hr.mono (by decide)) (by rfl) T.g_is_noun T.F_is_noun.kp T.b_is_noun .nil pass0 (pa_cons (pv 0) (pa_cons (pv 4) pa_nil))) (pe_and (pe_call G_is_verb (hr.mono (by decide)) (by rfl) T.g_is_verb T.F_is_verb.kp T.b_is_verb .nil pass0 (pa_cons (pv 0) (pa_cons (pv 6) pa_nil))) (pe_one (pe_call G_is_noun (hr.mono (by decide)) (by rfl) T.g_is_noun T.F_is_noun.kp T.b_is_noun .nil pass0 (pa_cons (pv 0) (pa_cons (pv 9) pa_nil)))))))))))), ?_⟩
    have hl := DpAll.length hd
    refine ⟨_, rfl, a, xs, rfl, .inr ht, rfl, _, rfl, ?_⟩
    by_cases h8 : xs.length = 8
    · rw [h8]
      refine iteF ?_
      obtain ⟨x1, xs1, e1, ds1, rfl, rfl, d1, hd, h8⟩ := DpAll.uncons hd h8
      obtain ⟨x2, xs2, e2, ds2, rfl, rfl, d2, hd, h8⟩ := DpAll.uncons hd h8
      obtain ⟨x3, xs3, e3, ds3, rfl, rfl, d3, hd, h8⟩ := DpAll.uncons hd h8
      obtain ⟨x4, xs4, e4, ds4, rfl, rfl, d4, hd, h8⟩ := DpAll.uncons hd h8
      obtain ⟨x5, xs5, e5, ds5, rfl, rfl, d5, hd, h8⟩ := DpAll.uncons hd h8
      obtain ⟨x6, xs6, e6, ds6, rfl, rfl, d6, hd, h8⟩ := DpAll.uncons hd h8
      obtain ⟨x7, xs7, e7, ds7, rfl, rfl, d7, hd, h8⟩ := DpAll.uncons hd h8
      obtain ⟨x8, xs8, e8, ds8, rfl, rfl, d8, hd, h8⟩ := DpAll.uncons hd h8
      obtain ⟨rfl, rfl⟩ := DpAll.empty hd h8
      have shd := List.all_eq_true.mp sh
      refine ⟨_, rfl, a, _, rfl, ht, rfl, _, _, rfl, _, _, rfl, _, _, rfl, _, _, rfl, _, _, rfl, _, _, rfl, _, _, rfl, _, _, rfl, rfl, ?_⟩
      have dq : Dp K H (.ref T.a_QUANTIFIERS) (.tuple quants) := .tup (T.t_QUANTIFIERS H) (.cons (.str _) (.cons (.str _) .nil))
      have k : Q (.bl ((inW quants e2 && inW quants e7) && ((isB e4 && isB e6) && (isInt e3 0 (n - 1) && (isInt e5 0 (m - 1) && isInt e8 0 (n - 1)))))) H := k
      refine ⟨_, rfl, e2, quants, d2, dq, shd e2 (by simp), sh_quants, _, rfl, ?_⟩
      cases q2 : inW quants e2 with
      | false =>
        rw [q2] at k
        exact iteT (iteT k)
      | true =>
        rw [q2, Bool.true_and] at k
        refine iteF ⟨_, rfl, e7, quants, d7, dq, shd e7 (by simp), sh_quants, _, rfl, or_step k fun _ k => ?_⟩
        refine ⟨_, rfl, _, .ty "bool", _, _, _, rfl, .ty _, tyx d4, kitBo _, _, rfl, ?_⟩
        cases q4 : isB e4 with
        | false =>
          rw [q4] at k
          exact iteT (iteT k)
        | true =>
          rw [q4, Bool.true_and] at k
          refine iteF ⟨_, rfl, _, .ty "bool", _, _, _, rfl, .ty _, tyx d6, kitBo _, _, rfl, or_step k fun _ k => ?_⟩
          refine ⟨_, rfl, _, rfl, _, _, _, n, m, rfl, hs, d3, _, rfl, and_step k fun k => ?_⟩
          refine ⟨_, rfl, _, rfl, _, _, _, n, m, rfl, hs, d5, _, rfl, and_step k fun k => ?_⟩
          exact ⟨_, rfl, _, rfl, _, _, _, n, m, rfl, hs, d8, k⟩
    · have e0 := len_ne h8
      rw [show ((8 : Nat) : Int) = 8 from rfl] at e0
      rw [e0]
      refine iteT ?_
      have e : isVS n m ds = false := by
        rw [hl] at h8
        match ds, h8 with
        | [], _ => rfl
        | [_], _ => rfl
        | [_, _], _ => rfl
        | [_, _, _], _ => rfl
        | [_, _, _, _], _ => rfl
        | [_, _, _, _, _], _ => rfl
        | [_, _, _, _, _, _], _ => rfl
        | [_, _, _, _, _, _, _], _ => rfl
        | [_, _, _, _, _, _, _, _], h => exact absurd rfl h
        | _ :: _ :: _ :: _ :: _ :: _ :: _ :: _ :: _ :: _, _ => rfl
      rw [e] at k
      exact k
theorem ok__is_self_sentence (T : Txt K mg) : FnOk P w K mg base CX0 3 T.f__is_self_sentence T.d__is_self_sentence ["signature", "value"] (spItems K isSS) := by
  have G_is_noun := ok_is_noun (P := P) (w := w) (base := base) T
  have G_is_verb := ok_is_verb (P := P) (w := w) (base := base) T
  refine T.F__is_self_sentence.ok sc_is_self_sentence (fun vs H Q E h => ?_) (fun cdv A outer s H vs Q E hr h => ?_)
  · obtain ⟨v, n, m, a, xs, ds, rfl, _⟩ := h
    rfl
  · obtain ⟨v, n, m, a, xs, ds, rfl, hs, ht, hd, sh, k⟩ := h
    refine ⟨_, (pss_cons (ps_if (pt_cmpR op_ne (pe_callB call_len_seq (by rfl) T.n_len (by decide +kernel) (pa_cons (pv 1) pa_nil)) pe_int (nomark _)) (pss_one (ps_ret pe_bl)) pss_nil)
      (pss_cons (ps_asg (pv 1) (pg_tup rfl (pgs_cons (pg_name (i := 2) sc_is_self_sentence.nd rfl (Or.inl rfl)) (pgs_cons (pg_name (i := 3) sc_is_self_sentence.nd rfl (Or.inl rfl)) (pgs_cons (pg_name (i := 4) sc_is_self_sentence.nd rfl (Or.inl rfl)) (pgs_cons (pg_name (i := 5) sc_is_self_sentence.nd rfl (Or.inl rfl)) (pgs_cons (pg_name (i := 6) sc_is_self_sentence.nd rfl (Or.inl rfl)) pgs_nil)))))))
      (pss_cons (ps_if (PW.pt (pw_or (pt_cmpR (op_notInT hr.units2) (pv 3) (pe_glob (v := .ref T.a_QUANTIFIERS) rfl T.c_QUANTIFIERS rfl) (by rfl)) (pw_or1 (pt_not (pt_val (pe_callB call_isi (by rfl) T.n_isinstance (by decide +kernel) (pa_cons (pv 5) (pa_cons (pe_bltn (v := .ty "bool") (by rfl) T.n_bool (by decide +kernel) rfl) pa_nil)))))))) (pss_one (ps_ret pe_bl)) pss_nil)
      (pss_one (ps_ret (pe_and (pe_call G_is_noun (hr.mono (by decide)) (by rfl) T.g_is_noun T.F_is_noun.kp T.b_is_noun .nil pass0 (pa_cons (pv 0) (pa_cons (pv 4) pa_nil))) (pe_one (pe_call G_is_verb (hr.mono (by decide)) (by rfl) T.g_is_verb T.F_is_verb.kp T.b_is_verb .nil pass0 (pa_cons (pv 0) (pa_cons (pv 6) pa_nil)))))))))), ?_⟩
    have hl := DpAll.length hd
    refine ⟨_, rfl, a, xs, rfl, .inr ht, rfl, _, rfl, ?_⟩
    by_cases h8 : xs.length = 5
    · rw [h8]
      refine iteF ?_
      obtain ⟨x1, xs1, e1, ds1, rfl, rfl, d1, hd, h8⟩ := DpAll.uncons hd h8
      obtain ⟨x2, xs2, e2, ds2, rfl, rfl, d2, hd, h8⟩ := DpAll.uncons hd h8
      obtain ⟨x3, xs3, e3, ds3, rfl, rfl, d3, hd, h8⟩ := DpAll.uncons hd h8
      obtain ⟨x4, xs4, e4, ds4, rfl, rfl, d4, hd, h8⟩ := DpAll.uncons hd h8
      obtain ⟨x5, xs5, e5, ds5, rfl, rfl, d5, hd, h8⟩ := DpAll.uncons hd h8
      obtain ⟨rfl, rfl⟩ := DpAll.empty hd h8
      have shd := List.all_eq_true.mp sh
      refine ⟨_, rfl, a, _, rfl, ht, rfl, _, _, rfl, _, _, rfl, _, _, rfl, _, _, rfl, _, _, rfl, rfl, ?_⟩
      have dq : Dp K H (.ref T.a_QUANTIFIERS) (.tuple quants) := .tup (T.t_QUANTIFIERS H) (.cons (.str _) (.cons (.str _) .nil))
      have k : Q (.bl ((inW quants e2 && isB e4) && (isInt e3 0 (n - 1) && isInt e5 0 (m - 1)))) H := k
      refine ⟨_, rfl, e2, quants, d2, dq, shd e2 (by simp), sh_quants, _, rfl, ?_⟩
      cases q2 : inW quants e2 with
      | false =>
        rw [q2] at k
        exact iteT (iteT k)
      | true =>
        rw [q2, Bool.true_and] at k
        refine iteF ⟨_, rfl, _, .ty "bool", _, _, _, rfl, .ty _, tyx d4, kitBo _, _, rfl, or_step k fun _ k => ?_⟩
        refine ⟨_, rfl, _, rfl, _, _, _, n, m, rfl, hs, d3, _, rfl, and_step k fun k => ?_⟩
        exact ⟨_, rfl, _, rfl, _, _, _, n, m, rfl, hs, d5, k⟩
    · have e0 := len_ne h8
      rw [show ((5 : Nat) : Int) = 5 from rfl] at e0
      rw [e0]
      refine iteT ?_
      have e : isSS n m ds = false := by
        rw [hl] at h8
        match ds, h8 with
        | [], _ => rfl
        | [_], _ => rfl
        | [_, _], _ => rfl
        | [_, _, _], _ => rfl
        | [_, _, _, _], _ => rfl
        | [_, _, _, _, _], h => exact absurd rfl h
        | _ :: _ :: _ :: _ :: _ :: _ :: _, _ => rfl
      rw [e] at k
      exact k
def spSentence (K : PySem.W.Frag) : Sp := fun vs H Q _ => ∃ (v x : V) (d : PyData) (n m : Int), vs = [v, x] ∧ Sig K H v n m ∧ Dp K H x d ∧ shs d = true ∧ Q (.bl (isSent n m d)) H
theorem ok_is_sentence (T : Txt K mg) : FnOk P w K mg base CX0 4 T.f_is_sentence T.d_is_sentence ["signature", "value"] (spSentence K) := by
  have G_is_noun := ok_is_noun (P := P) (w := w) (base := base) T
  have G__is_verb_sentence := ok__is_verb_sentence (P := P) (w := w) (base := base) T
  have G__is_self_sentence := ok__is_self_sentence (P := P) (w := w) (base := base) T
  refine T.F_is_sentence.ok scis_sentence (fun vs H Q E h => ?_) (fun cdv A outer s H vs Q E hr h => ?_)
  · obtain ⟨v, x, d, n, m, rfl, _⟩ := h
    rfl
  · obtain ⟨v, x, d, n, m, rfl, hs, hd, sh, k⟩ := h
    refine ⟨_, (pss_cons (ps_if (PW.pt (pw_or (pt_not (pt_val (pe_callB call_isi (by rfl) T.n_isinstance (by decide +kernel) (pa_cons (pv 1) (pa_cons (pe_bltn (v := .ty "tuple") (by rfl) T.n_tuple (by decide +kernel) rfl) pa_nil))))) (pw_or1 (pt_cmpR op_eq (pe_callB call_len_seq (by rfl) T.n_len (by decide +kernel) (pa_cons (pv 1) pa_nil)) pe_int (nomark _))))) (pss_one (ps_ret pe_bl)) pss_nil)
      (pss_cons (ps_if (pt_cmpR (op_eqD hr.units) (pe_ix ix_tup (pv 1) pe_int (fun _ _ => rfl)) pe_str (nomark _)) (pss_one (ps_ret (pe_call G__is_verb_sentence (hr.mono (by decide)) (by rfl) T.g__is_verb_sentence T.F__is_verb_sentence.kp T.b__is_verb_sentence .nil pass0 (pa_cons (pv 0) (pa_cons (pv 1) pa_nil))))) pss_nil)
      (pss_cons (ps_if (pt_cmpR (op_eqD hr.units) (pe_ix ix_tup (pv 1) pe_int (fun _ _ => rfl)) pe_str (nomark _)) (pss_one (ps_ret (pe_call G__is_self_sentence (hr.mono (by decide)) (by rfl) T.g__is_self_sentence T.F__is_self_sentence.kp T.b__is_self_sentence .nil pass0 (pa_cons (pv 0) (pa_cons (pv 1) pa_nil))))) pss_nil)
      (pss_cons (ps_if (PW.pt (pw_or (pt_cmpR (op_notInT hr.units2) (pe_ix ix_tup (pv 1) pe_int (fun _ _ => rfl)) (pe_glob (v := .ref T.a_NOUN_WORDS) rfl T.c_NOUN_WORDS rfl) (by rfl)) (pw_or1 (pt_cmpR op_ne (pe_callB call_len_seq (by rfl) T.n_len (by decide +kernel) (pa_cons (pv 1) pa_nil)) pe_int (nomark _))))) (pss_one (ps_ret pe_bl)) pss_nil)
      (pss_one (ps_ret (pe_and (pe_call G_is_noun (hr.mono (by decide)) (by rfl) T.g_is_noun T.F_is_noun.kp T.b_is_noun .nil pass0 (pa_cons (pv 0) (pa_cons (pe_ix ix_tup (pv 1) pe_int (fun _ _ => rfl)) pa_nil))) (pe_one (pe_call G_is_noun (hr.mono (by decide)) (by rfl) T.g_is_noun T.F_is_noun.kp T.b_is_noun .nil pass0 (pa_cons (pv 0) (pa_cons (pe_ix ix_tup (pv 1) pe_int (fun _ _ => rfl)) pa_nil))))))))))), ?_⟩
    refine ⟨x, rfl, x, .ty "tuple", _, _, _, rfl, .ty _, tyx hd, kitT d, _, rfl, ?_⟩
    cases hd with
    | non => exact iteT (iteT k)
    | bl b => exact iteT (iteT k)
    | int i => exact iteT (iteT k)
    | str x => exact iteT (iteT k)
    | lst _ _ => exact iteT (iteT k)
    | @tup a xs ds ht ha =>
      refine iteF ⟨_, rfl, a, xs, rfl, .inr ht, rfl, _, rfl, ?_⟩
      have sh : ds.all SeqAt.shaped = true := sh
      have hl := DpAll.length ha
      cases ha with
      | nil => exact iteT k
      | @cons w0 xs1 e0 ds1 d0 ha1 =>
        have hall : DpAll K H (w0 :: xs1) (e0 :: ds1) := .cons d0 ha1
        rw [decide_eq_false (show ¬ (V.int (((w0 :: xs1).length : Nat) : Int) = V.int 0) from fun z => by have := V.int.inj z; rw [List.length_cons] at this; omega)]
        have s0 : SeqAt.shaped e0 = true := List.all_eq_true.mp sh e0 (by simp)
        refine iteF ⟨_, rfl, a, _, _, w0, rfl, rfl, ht, atI_nat (j := 0) rfl, e0, .str "verb", d0, .str _, s0, shS _, _, rfl, ?_⟩
        have k : Q (.bl (if isStr e0 "verb" = true then isVS n m (e0 :: ds1) else if isStr e0 "self" = true then isSS n m (e0 :: ds1) else isNS n (e0 :: ds1))) H := k
        by_cases w1 : isStr e0 "verb" = true
        · rw [if_pos w1] at k
          have w1' : PyData.eqv e0 (.str "verb") = true := w1
          rw [w1']
          exact iteT ⟨_, rfl, _, rfl, v, n, m, a, _, _, rfl, hs, ht, hall, sh, k⟩
        rw [if_neg w1] at k
        have w1' : PyData.eqv e0 (.str "verb") = false := Bool.eq_false_iff.mpr w1
        rw [w1']
        refine iteF ⟨_, rfl, a, _, _, w0, rfl, rfl, ht, atI_nat (j := 0) rfl, e0, .str "self", d0, .str _, s0, shS _, _, rfl, ?_⟩
        by_cases w2 : isStr e0 "self" = true
        · rw [if_pos w2] at k
          have w2' : PyData.eqv e0 (.str "self") = true := w2
          rw [w2']
          exact iteT ⟨_, rfl, _, rfl, v, n, m, a, _, _, rfl, hs, ht, hall, sh, k⟩
        rw [if_neg w2] at k
        have w2' : PyData.eqv e0 (.str "self") = false := Bool.eq_false_iff.mpr w2
        rw [w2']
        have dw : Dp K H (.ref T.a_NOUN_WORDS) (.tuple words) := .tup (T.t_NOUN_WORDS H) (.cons (.str _) (.cons (.str _) (.cons (.str _) (.cons (.str _) (.cons (.str _) (.cons (.str _) .nil))))))
        refine iteF ⟨_, rfl, a, _, _, w0, rfl, rfl, ht, atI_nat (j := 0) rfl, e0, words, d0, dw, s0, sh_words, _, rfl, ?_⟩
        by_cases q0 : inW words e0 = true
        · rw [q0]
          refine iteF ⟨_, rfl, a, _, rfl, .inr ht, rfl, _, rfl, ?_⟩
          by_cases h3 : (w0 :: xs1).length = 3
          · rw [h3]
            refine iteF ?_
            have h3 : xs1.length = 2 := by
              rw [List.length_cons] at h3
              omega
            obtain ⟨y1, ys1, f1, es1, rfl, rfl, g1, ha2, h3⟩ := DpAll.uncons ha1 h3
            obtain ⟨y2, ys2, f2, es2, rfl, rfl, g2, ha3, h3⟩ := DpAll.uncons ha2 h3
            obtain ⟨rfl, rfl⟩ := DpAll.empty ha3 h3
            have k : Q (.bl (inW words e0 && (isInt f1 0 (n - 1) && isInt f2 0 (n - 1)))) H := k
            rw [q0, Bool.true_and] at k
            refine ⟨_, rfl, _, rfl, a, _, _, y1, rfl, rfl, ht, atI_nat (j := 1) rfl, v, y1, f1, n, m, rfl, hs, g1, _, rfl, and_step k fun k => ?_⟩
            exact ⟨_, rfl, _, rfl, a, _, _, y2, rfl, rfl, ht, atI_nat (j := 2) rfl, v, y2, f2, n, m, rfl, hs, g2, k⟩
          · have e0' := len_ne h3
            rw [show ((3 : Nat) : Int) = 3 from rfl] at e0'
            rw [e0']
            refine iteT ?_
            have e : isNS n (e0 :: ds1) = false := by
              have h4 : ds1.length ≠ 2 := fun z => h3 (by rw [List.length_cons, DpAll.length ha1, z])
              match ds1, h4 with
              | [], _ => rfl
              | [_], _ => rfl
              | [_, _], h => exact absurd rfl h
              | _ :: _ :: _ :: _, _ => rfl
            rw [e] at k
            exact k
        · rw [Bool.eq_false_iff.mpr q0]
          refine iteT (iteT ?_)
          have e : isNS n (e0 :: ds1) = false := by
            match ds1 with
            | [] => rfl
            | [_] => rfl
            | [_, _] =>
              show (inW words e0 && _) = false
              rw [Bool.eq_false_iff.mpr q0, Bool.false_and]
            | _ :: _ :: _ :: _ => rfl
          rw [e] at k
          exact k
def spPremises (K : PySem.W.Frag) (P : Addr) : Sp := fun vs H Q _ => ∃ (v x : V) (d : PyData) (n m : Int), vs = [v, x] ∧ Sig K H v n m ∧ Dp K H x d ∧ shss d = true ∧ GxR.TabG H P ∧ ∀ H', Same H H' → Q (.bl (isPrem n m d)) H'
theorem ok_are_premises (T : Txt K mg) (TB_are_premises : GxR.TabB base mg T.cc_are_premises T.pp_are_premises) : FnOk P w K mg base CX0 6 T.f_are_premises T.d_are_premises ["signature", "value"] (spPremises K T.pp_are_premises) := by
  have G_is_sentence := ok_is_sentence (P := P) (w := w) (base := base) T
  refine T.FC_are_premises.ok scare_premises (fun vs H Q E h => ?_) (fun A outer s H vs Q E hr h => ?_)
  · obtain ⟨v, x, d, n, m, rfl, _⟩ := h
    rfl
  · obtain ⟨v, x, d, n, m, rfl, hs, hd, sh, tg, k⟩ := h
    refine ⟨_, (pss_cons (ps_if (PW.pt (pw_or (pt_not (pt_val (pe_callB call_isi (by rfl) T.n_isinstance (by decide +kernel) (pa_cons (pv 1) (pa_cons (pe_bltn (v := .ty "tuple") (by rfl) T.n_tuple (by decide +kernel) rfl) pa_nil))))) (pw_or1 (pt_cmpR op_gt (pe_callB call_len_seq (by rfl) T.n_len (by decide +kernel) (pa_cons (pv 1) pa_nil)) (pe_glob (v := .int 8) rfl T.c_MOST_PREMISES ⟨_, rfl⟩) (nomark _))))) (pss_one (ps_ret pe_bl)) pss_nil)
      (pss_one (ps_ret (GXX.pe_genAll (own := [("one", 2)]) (g := gName 2) rfl hr (by rfl) T.n_all TB_are_premises rfl scare_premises.nd (pi_tup (pv 1)) (blkOk_by (own := [("one", 2)]) (N := Nare_premises) (sc := defScope sare_premises) (by decide +kernel)) (by decide +kernel) rfl rfl (fun _ _ _ _ _ _ _ => pg_name (i := 2) scare_premises.nd rfl (Or.inl rfl)) (fun _ _ _ _ _ _ _ => (pe_call G_is_sentence (GXX.room_gen (k := 4) (hr.mono (by decide))) (by rfl) T.g_is_sentence T.F_is_sentence.kp T.b_is_sentence .nil pass0 (pa_cons (pv 0) (pa_cons (pv 2) pa_nil)))))))), ?_⟩
    refine ⟨x, rfl, x, .ty "tuple", _, _, _, rfl, .ty _, tyx hd, kitT d, _, rfl, ?_⟩
    cases hd with
    | non => exact iteT (iteT (k H (Same.refl H)))
    | bl b => exact iteT (iteT (k H (Same.refl H)))
    | int i => exact iteT (iteT (k H (Same.refl H)))
    | str x => exact iteT (iteT (k H (Same.refl H)))
    | lst _ _ => exact iteT (iteT (k H (Same.refl H)))
    | @tup a xs ds ht ha =>
      have hl := DpAll.length ha
      have sh : ds.all shs = true := sh
      refine iteF ⟨_, rfl, a, xs, rfl, .inr ht, _, _, rfl, rfl, _, rfl, ?_⟩
      have k : ∀ H', Same H H' → Q (.bl (decide (ds.length ≤ 8) && ds.all (isSent n m))) H' := k
      by_cases h8 : ds.length ≤ 8
      · rw [decide_eq_false (show ¬ ((8 : Int) < (xs.length : Int)) by omega)]
        rw [decide_eq_true h8, Bool.true_and] at k
        refine iteF ⟨_, rfl, a, rfl, ⟨_, ht⟩, tg, fun H2 tb => ?_⟩
        have s2 := Same.tabbed tg tb
        refine GXX.gen_tup (K := K) (xs := xs) (brk := false) (fun i H' => Same H H' ∧ (ds.take i).all (isSent n m) = true) ⟨s2, by rw [List.take_zero]; rfl⟩ (fun i H' _ hP => Same.sqT hP.1 ht) (fun i y H' hy hP => ?_) fun H' hP => ?_
        · obtain ⟨s', hall⟩ := hP
          have hi : i < ds.length := by
            rw [← hl]
            exact (List.getElem?_eq_some_iff.mp hy).1
          have ed := List.getElem?_eq_getElem hi
          obtain ⟨y', ey, dy⟩ := DpAll.get ha ed
          rw [hy] at ey
          cases ey
          refine ⟨rfl, _, rfl, _, rfl, v, y, ds[i], n, m, rfl, hs.keep s', keepD s' _ _ dy, List.all_eq_true.mp sh _ (List.getElem_mem hi), _, rfl, fun hb => ?_, fun hb => ?_⟩
          · refine ⟨s', ?_⟩
            have hb : isSent n m ds[i] = true := by
              cases e : isSent n m ds[i] with
              | true => rfl
              | false => exact absurd e hb
            rw [List.take_add_one, ed, List.all_append, hall]
            show (true && (isSent n m ds[i] && true)) = true
            rw [hb]
            rfl
          · have e : ds.all (isSent n m) = false := by
              rw [List.all_eq_false]
              exact ⟨ds[i], List.getElem_mem hi, by rw [hb]; decide⟩
            rw [e] at k
            exact k H' s'
        · obtain ⟨s', hall⟩ := hP
          rw [hl, List.take_length] at hall
          rw [hall] at k
          exact k H' s'
      · rw [decide_eq_true (show (8 : Int) < (xs.length : Int) by omega)]
        rw [decide_eq_false h8, Bool.false_and] at k
        exact iteT (k H (Same.refl H))
end
/-! ### the law's own tools -/
/-- all but the object at p is as it was -/
def Ext (p : Addr) (H H' : Hp) : Prop := (∀ b o, b ≠ p → H b = some o → (∀ ps, o ≠ .tbl ps) → H' b = some o) ∧ ∀ b, GxR.TabG H b → GxR.TabG H' b
def Strm (l : Addr) (H : Hp) (p : Addr) : Prop := ∃ (ns : List Int) (c k : Int), H p = some (.lst [.ref l, .int c, .int k]) ∧ H l = some (.lst (ns.map V.int)) ∧ 0 ≤ c ∧ 0 ≤ k
theorem Ext.refl (p : Addr) (H : Hp) : Ext p H H := ⟨fun _ _ _ h _ => h, fun _ h => h⟩
theorem Ext.trans {p : Addr} {H H1 H2 : Hp} (a : Ext p H H1) (b : Ext p H1 H2) : Ext p H H2 := ⟨fun c o n h t => b.1 c o n (a.1 c o n h t) t, fun c h => b.2 c (a.2 c h)⟩
theorem Ext.at {p b : Addr} {H H' : Hp} {o : HO} (e : Ext p H H') (n : b ≠ p) (h : H b = some o) (t : ∀ ps, o ≠ .tbl ps := by intro ps z; cases z) : H' b = some o := e.1 b o n h t
theorem Same.ext {p : Addr} {H H' : Hp} (s : Same H H') : Ext p H H' := ⟨fun b o _ h t => s.1 b o h t, s.2⟩
theorem ext_upd {p : Addr} {H H1 : Hp} {xs : List V} {o : HO} (e : Ext p H H1) (hp : H p = some (.lst xs)) : Ext p H (upd H1 p o) := by
  refine ⟨fun b x n h t => ?_, fun b hb => ?_⟩
  · rw [upd_ne n]
    exact e.1 b x n h t
  · obtain ⟨ps, h1, h2⟩ := hb
    obtain ⟨ps2, h3, h4⟩ := e.2 b ⟨ps, h1, h2⟩
    exact ⟨ps2, by rw [upd_ne (ne_of h1 hp (by intro z; cases z))]; exact h3, h4⟩
theorem Strm.keep {l p : Addr} {H H' : Hp} (s : Same H H') (h : Strm l H p) : Strm l H' p := by
  obtain ⟨ns, c, k, h1, h2, h3⟩ := h
  exact ⟨ns, c, k, s.at h1, s.at h2, h3⟩
theorem Ext.sqT' {K : PySem.W.Frag} {p a : Addr} {H H' : Hp} {xs ys : List V} (e : Ext p H H') (h1 : H p = some (.lst ys)) (h : SqT K H a xs) : SqT K H' a xs := by
  rcases h with (h | ⟨o, h⟩) | h
  · exact .inl (.inl (e.at (ne_of h h1 (by intro z; cases z)) h))
  · exact .inl (.inr ⟨o, e.at (ne_of h h1 (by intro z; cases z)) h⟩)
  · exact .inr h
theorem Ext.sqT {K : PySem.W.Frag} {l p a : Addr} {H H' : Hp} {xs : List V} (e : Ext p H H') (st : Strm l H p) (h : SqT K H a xs) : SqT K H' a xs := by
  obtain ⟨ns, c, k, h1, _⟩ := st
  exact e.sqT' h1 h
theorem Ext.sig {K : PySem.W.Frag} {l p : Addr} {H H' : Hp} {v : V} {n m : Int} (e : Ext p H H') (st : Strm l H p) (h : Sig K H v n m) : Sig K H' v n m := by
  obtain ⟨a, rfl, h⟩ := h
  exact ⟨a, rfl, e.sqT st h⟩
section
variable {K : PySem.W.Frag}
/-- not what the stream holds -/
def nst (xs : List V) : Prop := ∀ l c k, xs ≠ [.ref l, .int c, .int k]
def okL : List PyData → Bool
  | [.list _, .int _, .int _] => false
  | [.tuple _, .int _, .int _] => false
  | _ => true
/-- no list within that the stream's could be -/
def safe : PyData → Bool
  | .list ds => okL ds && ds.attach.all fun ⟨d, _⟩ => safe d
  | .tuple ds => ds.attach.all fun ⟨d, _⟩ => safe d
  | _ => true
theorem safe_all {ds : List PyData} : (ds.attach.all fun ⟨d, _⟩ => safe d) = true ↔ ∀ d ∈ ds, safe d = true := by
  simp [List.all_eq_true]
theorem nst_of {H : Hp} {xs : List V} {ds : List PyData} (h : DpAll K H xs ds) (o : okL ds = true) : nst xs := by
  intro l c k z
  subst z
  cases h with
  | cons h1 t =>
    cases t with
    | cons h2 t =>
      cases t with
      | cons h3 t =>
        cases t
        cases h2
        cases h3
        cases h1 <;> cases o
theorem Ext.sqL {l p a : Addr} {H H' : Hp} {xs : List V} (e : Ext p H H') (st : Strm l H p) (h3 : nst xs) (h : SqL K H a xs) : SqL K H' a xs := by
  obtain ⟨ns, c, k, h1, _⟩ := st
  rcases h with (h | ⟨o, h⟩) | h
  · exact .inl (.inl (e.at (ne_of h h1 (by intro z; exact h3 _ _ _ (HO.lst.inj z))) h))
  · exact .inl (.inr ⟨o, e.at (ne_of h h1 (by intro z; cases z)) h⟩)
  · exact .inr h
mutual
theorem keepX {l p : Addr} {H H' : Hp} (e : Ext p H H') (st : Strm l H p) : ∀ (d : PyData) (v : V), safe d = true → Dp K H v d → Dp K H' v d
  | .none, _, _, .non => .non
  | .bool _, _, _, .bl b => .bl b
  | .int _, _, _, .int i => .int i
  | .str _, _, _, .str x => .str x
  | .list ds, _, q, .lst h a => by
    unfold safe at q
    rw [Bool.and_eq_true] at q
    exact .lst (e.sqL st (nst_of a q.1) h) (keepXs e st ds _ (safe_all.mp q.2) a)
  | .tuple ds, _, q, .tup h a => by
    unfold safe at q
    exact .tup (e.sqT st h) (keepXs e st ds _ (safe_all.mp q) a)
theorem keepXs {l p : Addr} {H H' : Hp} (e : Ext p H H') (st : Strm l H p) : ∀ (ds : List PyData) (vs : List V), (∀ d ∈ ds, safe d = true) → DpAll K H vs ds → DpAll K H' vs ds
  | [], _, _, .nil => .nil
  | d :: ds, _, q, .cons h t => .cons (keepX e st d _ (q d List.mem_cons_self) h) (keepXs e st ds _ (fun x hx => q x (List.mem_cons_of_mem _ hx)) t)
end
theorem cut_last {xs : List V} (hk : 1 ≤ xs.length) : cutV xs none (some (-1)) = xs.take (xs.length - 1) := by
  unfold cutV
  have e : HT.sIx xs.length xs.length (some (-1)) = xs.length - 1 := by
    show (if (-1 : Int) < 0 then ((-1 : Int) + (xs.length : Int)).toNat else min (-1 : Int).toNat xs.length) = _
    rw [if_pos (by decide)]
    omega
  rw [e, HT.sIx_none]
  simp
end
section
variable {P : Program} {w : World} {K : PySem.W.Frag} {mg : Str → Option Value} {base : Heap}
def spStream (K : PySem.W.Frag) : Sp := fun vs H Q _ => ∃ (a : Addr) (ns : List Int), vs = [.ref a] ∧ SqL K H a (ns.map V.int) ∧ ∀ H' p l, Same H H' → Strm l H' p → Q (.ref p) H'
theorem ok__law_stream (T : Txt K mg) : FnOk P w K mg base CX0 1 T.f__law_stream T.d__law_stream ["script"] (spStream K) := by
  refine T.F__law_stream.ok sc_law_stream (fun vs H Q E h => ?_) (fun cdv A outer s H vs Q E hr h => ?_)
  · obtain ⟨a, ns, rfl, _⟩ := h
    rfl
  · obtain ⟨a, ns, rfl, hS, k⟩ := h
    refine ⟨_, (pss_one (ps_ret (pe_lst (pa_cons (pe_callTy call_list_of (by rfl) T.n_list (by decide +kernel) (pa_cons (pv 0) pa_nil)) (pa_cons pe_int (pa_cons pe_int pa_nil)))))), ?_⟩
    refine ⟨_, rfl, a, _, rfl, .inl hS, fun l nl => ⟨by show 3 ≤ sizeLine; decide, fun p np => k _ _ _ ((same_upd nl).trans (same_upd np)) ⟨ns, 0, 0, upd_same, ?_, Int.le_refl _, Int.le_refl _⟩⟩⟩
    have nlp : l ≠ p := fun e => by
      rw [← e, upd_same] at np
      cases np
    rw [upd_ne nlp, upd_same]
def spNext (K : PySem.W.Frag) : Sp := fun vs H Q _ => ∃ (p l : Addr) (m : Int), vs = [.ref p, .int m] ∧ Strm l H p ∧ 0 < m ∧ m < 1073741824 ∧ ∀ H' d, Ext p H H' → Strm l H' p → 0 ≤ d → d < m → Q (.int d) H'
theorem ok__law_next (T : Txt K mg) : FnOk P w K mg base CX0 1 T.f__law_next T.d__law_next ["stream", "many"] (spNext K) := by
  refine T.F__law_next.ok sc_law_next (fun vs H Q E h => ?_) (fun cdv A outer s H vs Q E hr h => ?_)
  · obtain ⟨p, l, m, rfl, _⟩ := h
    rfl
  · obtain ⟨p, l, m, rfl, ⟨ns, c, i, hp, hl, hc, hi⟩, hm, hm2, k⟩ := h
    have nlp : l ≠ p := fun e => by
      rw [e, hp] at hl
      have z := HO.lst.inj (Option.some.inj hl)
      cases ns with
      | nil => cases z
      | cons _ _ =>
        rw [List.map_cons] at z
        injection z with z1 _
        cases z1
    have hp0 := hp
    refine ⟨_, (pss_cut (ps_if (pt_cmpR op_eq (pe_ix ix_list (pv 0) pe_int (fun _ _ => rfl)) pe_int (nomark _)) (pss_cons (ps_set (i := 2) sc_law_next.nd rfl (Or.inl rfl) (pe_ix ix_list (pv 0) pe_int (fun _ _ => rfl)))
      (pss_cons (ps_set (i := 3) sc_law_next.nd rfl (Or.inl rfl) (pe_op op_add pe_int (pv 2)))
      (pss_cut (ps_if (pt_cmpR op_lt (pv 2) (pe_callB call_len_seq (by rfl) T.n_len (by decide +kernel) (pa_cons (pe_ix ix_list (pv 0) pe_int (fun _ _ => rfl)) pa_nil)) (nomark _)) (pss_one (ps_set (i := 3) sc_law_next.nd rfl (Or.inl rfl) (pe_callB call_abs (by rfl) T.n_abs (by decide +kernel) (pa_cons (pe_ix ix_list (pe_ix ix_list (pv 0) pe_int (fun _ _ => rfl)) (pv 2) (fun _ _ => rfl)) pa_nil)))) pss_nil)
      (pss_cut (ps_if (pt_cmpR op_lt (pv 3) (pe_op op_pow pe_int pe_int) (nomark _)) (pss_cons (ps_set (i := 3) sc_law_next.nd rfl (Or.inl rfl) (pe_op op_mod (pe_callTy call_int1 (by rfl) T.n_int (by decide +kernel) (pa_cons (pe_op op_add (pe_op op_add (pe_op op_mul (pv 3) pe_int) (pe_op op_mul (pv 2) pe_int)) pe_int) pa_nil)) pe_int))
      (pss_one (ps_set (i := 3) sc_law_next.nd rfl (Or.inl rfl) (pe_op op_add (pe_op op_mul (pe_op op_mod (pe_callTy call_int1 (by rfl) T.n_int (by decide +kernel) (pa_cons (pe_op op_add (pe_op op_mul (pv 3) pe_int) pe_int) pa_nil)) pe_int) pe_int) (pv 3))))) pss_nil)
      (pss_cons (ps_asg (pv 3) (pg_sub (pv 0) pe_int set_list))
      (pss_one (ps_asg (pe_op op_add (pv 2) pe_int) (pg_sub (pv 0) pe_int set_list)))))))) pss_nil)
      (pss_cons (ps_set (i := 4) sc_law_next.nd rfl (Or.inl rfl) (pe_op op_mod (pe_callTy call_int1 (by rfl) T.n_int (by decide +kernel) (pa_cons (pe_ix ix_list (pv 0) pe_int (fun _ _ => rfl)) pa_nil)) (pv 1)))
      (pss_cons (ps_asg (pe_op op_fdiv (pe_ix ix_list (pv 0) pe_int (fun _ _ => rfl)) (pv 1)) (pg_sub (pv 0) pe_int set_list))
      (pss_one (ps_ret (pv 4)))))), ?_⟩
    refine ⟨fun σ' H' => ∃ y z c i, σ' = [some (.ref p), some (.int m), y, z, none] ∧ Ext p H H' ∧ H' p = some (.lst [.ref l, .int c, .int i]) ∧ H' l = some (.lst (ns.map V.int)) ∧ 0 ≤ c ∧ 0 ≤ i, ?_, ?_⟩
    · refine ⟨_, rfl, p, _, _, _, rfl, rfl, .of hp, atI_nat (j := 1) rfl, rfl, _, rfl, ite2 (fun _ => ?_) (fun _ => ⟨none, none, c, i, rfl, Ext.refl _ _, hp, hl, hc, hi⟩)⟩
      refine ⟨_, rfl, p, _, _, _, rfl, rfl, .of hp, atI_nat (j := 2) rfl, .int i, rfl, 7, i, rfl, rfl, ?_⟩
      refine ⟨fun σ' H' => ∃ c1, σ' = [some (.ref p), some (.int m), some (.int i), some (.int c1), none] ∧ 0 ≤ c1 ∧ H = H', ?_, ?_⟩
      · refine ⟨_, rfl, _, rfl, p, _, _, _, rfl, rfl, .of hp, atI_nat (j := 0) rfl, l, _, rfl, .inl (.of hl), i, _, rfl, rfl, _, rfl, ite2 (fun e => ?_) (fun _ => ⟨7 + i, rfl, by omega, rfl⟩)⟩
        have e1 := of_decide_eq_true e
        rw [List.length_map] at e1
        obtain ⟨j, rfl⟩ := Int.eq_ofNat_of_zero_le hi
        have hj : j < ns.length := by omega
        have hat : atI (ns.map V.int) (j : Int) = some (.int ns[j]) := atI_nat (by rw [List.getElem?_map, List.getElem?_eq_getElem hj]; rfl)
        exact ⟨_, rfl, p, _, _, _, rfl, rfl, .of hp, atI_nat (j := 0) rfl, _, rfl, l, _, _, _, rfl, rfl, .of hl, hat, _, rfl, _, rfl, by split <;> omega, rfl⟩
      · rintro _ _ ⟨c1, rfl, h1, rfl⟩
        refine ⟨fun σ' H' => ∃ c1, σ' = [some (.ref p), some (.int m), some (.int i), some (.int c1), none] ∧ 0 ≤ c1 ∧ H = H', ?_, ?_⟩
        · refine ⟨_, rfl, 10, 18, rfl, rfl, by unfold CPow; decide, _, _, rfl, rfl, _, rfl, ite2 (fun _ => ?_) (fun _ => ⟨c1, rfl, h1, rfl⟩)⟩
          refine ⟨_, rfl, c1, 48271, rfl, rfl, .inr (by decide), _, rfl, i, 69621, rfl, rfl, .inr (by decide), _, _, rfl, rfl, _, _, rfl, rfl, .inl ⟨_, rfl, _, _, rfl, rfl, (by show (0 : Int) < 2147483647; decide), ?_⟩⟩
          refine ⟨_, rfl, _, 16807, rfl, rfl, .inr (by decide), _, _, rfl, rfl, .inl ⟨_, rfl, _, _, rfl, rfl, (by show (0 : Int) < 2147483647; decide), _, _, rfl, rfl, .inr (by decide), _, rfl, _, _, rfl, rfl, _, rfl, ?_, rfl⟩⟩
          omega
        · rintro _ _ ⟨c2, rfl, h2, rfl⟩
          refine ⟨_, rfl, _, rfl, p, _, 1, 1, rfl, rfl, hp, rfl, _, rfl, i, 1, rfl, rfl, _, rfl, p, _, 2, 2, rfl, rfl, upd_same, rfl, _, _, c2, i + 1, rfl, ext_upd (ext_upd (Ext.refl p H) hp) hp, ?_, ?_, h2, by omega⟩
          · rw [upd_same]
            rfl
          · rw [upd_ne nlp, upd_ne nlp]
            exact hl
    · rintro _ H1 ⟨y, z, c, i, rfl, ex, hp, hl, hc, hi⟩
      refine ⟨_, rfl, p, _, _, _, rfl, rfl, .of hp, atI_nat (j := 1) rfl, .inl ⟨_, rfl, _, rfl, _, _, rfl, rfl, hm, ?_⟩⟩
      refine ⟨_, rfl, p, _, _, _, rfl, rfl, .of hp, atI_nat (j := 1) rfl, _, rfl, _, _, rfl, rfl, ⟨hm, hm2⟩, _, rfl, p, _, 1, 1, rfl, rfl, hp, rfl, _, rfl, ?_⟩
      refine k _ _ (ext_upd ex hp0) ⟨ns, c / m, i, ?_, ?_, ?_, hi⟩ (Int.emod_nonneg _ (by omega)) (Int.emod_lt_of_pos _ hm)
      · rw [upd_same]
        rfl
      · rw [upd_ne nlp]
        exact hl
      · exact Int.ediv_nonneg hc (by omega)
def spIsInteger (K : PySem.W.Frag) : Sp := fun vs H Q _ => ∃ (v : V) (d : PyData), vs = [v] ∧ Dp K H v d ∧ Q (.bl (isI d && !isB d)) H
theorem ok__law_is_integer (T : Txt K mg) : FnOk P w K mg base CX0 1 T.f__law_is_integer T.d__law_is_integer ["actual"] (spIsInteger K) := by
  refine T.F__law_is_integer.ok sc_law_is_integer (fun vs H Q E h => ?_) (fun cdv A outer s H vs Q E hr h => ?_)
  · obtain ⟨v, d, rfl, _⟩ := h
    rfl
  · obtain ⟨v, d, rfl, hd, k⟩ := h
    refine ⟨_, (pss_one (ps_ret (pe_and (pe_callB call_isi (by rfl) T.n_isinstance (by decide +kernel) (pa_cons (pv 0) (pa_cons (pe_bltn (v := .ty "int") (by rfl) T.n_int (by decide +kernel) rfl) pa_nil))) (pe_one (pe_not (pe_callB call_isi (by rfl) T.n_isinstance (by decide +kernel) (pa_cons (pv 0) (pa_cons (pe_bltn (v := .ty "bool") (by rfl) T.n_bool (by decide +kernel) rfl) pa_nil)))))))), ?_⟩
    refine ⟨_, rfl, _, .ty "int", _, _, _, rfl, .ty _, tyx hd, kitI _, _, rfl, and_step2 k fun _ k => ?_⟩
    exact ⟨_, rfl, _, .ty "bool", _, _, _, rfl, .ty _, tyx hd, kitBo _, _, rfl, k⟩
end
section
variable {P : Program} {w : World} {K : PySem.W.Frag} {mg : Str → Option Value} {base : Heap}
def spEqual (n : Nat) (K : PySem.W.Frag) : Sp := fun vs H Q _ => ∃ (v u : V) (d : PyData), vs = [v, u] ∧ Dp K H v d ∧ Dp K H u d ∧ dep n d = true ∧ ∀ H', Same H H' → Q (.bl true) H'
theorem dself {v : V} {H : Hp} {Q : VK} (k : Q (.bl true) H) : Q (.bl (decide (v = v))) H := by
  rw [decide_eq_true rfl]
  exact k
theorem ok__law_equal (T : Txt K mg) : ∀ n, FnOk P w K mg base CX0 (n + 1) T.f__law_equal T.d__law_equal ["actual", "due"] (spEqual n K) := by
  have G__law_is_integer := ok__law_is_integer (P := P) (w := w) (base := base) T
  intro n
  induction n with
  | zero =>
    refine ⟨fun vs H Q E h => ?_, fun A outer s H args us vs Q E hr he hb hv h => ?_⟩
    · obtain ⟨v, u, d, rfl, _⟩ := h
      rfl
    · obtain ⟨v, u, d, _, _, _, h, _⟩ := h
      exact absurd h (by unfold dep; decide)
  | succ n ih =>
    have G__law_equal := ih
    refine T.F__law_equal.ok sc_law_equal (fun vs H Q E h => ?_) (fun cdv A outer s H vs Q E hr h => ?_)
    · obtain ⟨v, u, d, rfl, _⟩ := h
      rfl
    · obtain ⟨v, u, d, rfl, hv, hu, hn, k⟩ := h
      refine ⟨_, (pss_cons (ps_if (pt_cmpR op_isN (pv 1) pe_non (nomark _)) (pss_one (ps_ret (pe_cmpR op_isN (pv 0) pe_non (nomark _)))) pss_nil)
      (pss_cons (ps_if (pt_val (pe_callB call_isi (by rfl) T.n_isinstance (by decide +kernel) (pa_cons (pv 1) (pa_cons (pe_bltn (v := .ty "bool") (by rfl) T.n_bool (by decide +kernel) rfl) pa_nil)))) (pss_one (ps_ret (pe_and (pe_callB call_isi (by rfl) T.n_isinstance (by decide +kernel) (pa_cons (pv 0) (pa_cons (pe_bltn (v := .ty "bool") (by rfl) T.n_bool (by decide +kernel) rfl) pa_nil))) (pe_one (pe_cmpR op_eq (pv 0) (pv 1) (nomark _)))))) pss_nil)
      (pss_cons (ps_if (pt_val (pe_callB call_isi (by rfl) T.n_isinstance (by decide +kernel) (pa_cons (pv 1) (pa_cons (pe_bltn (v := .ty "int") (by rfl) T.n_int (by decide +kernel) rfl) pa_nil)))) (pss_one (ps_ret (pe_and (pe_call G__law_is_integer (hr.mono (by omega)) (by rfl) T.g__law_is_integer T.F__law_is_integer.kp T.b__law_is_integer .nil pass0 (pa_cons (pv 0) pa_nil)) (pe_one (pe_cmpR op_eq (pv 0) (pv 1) (nomark _)))))) pss_nil)
      (pss_cons (ps_if (pt_val (pe_callB call_isi (by rfl) T.n_isinstance (by decide +kernel) (pa_cons (pv 1) (pa_cons (pe_bltn (v := .ty "str") (by rfl) T.n_str (by decide +kernel) rfl) pa_nil)))) (pss_one (ps_ret (pe_and (pe_callB call_isi (by rfl) T.n_isinstance (by decide +kernel) (pa_cons (pv 0) (pa_cons (pe_bltn (v := .ty "str") (by rfl) T.n_str (by decide +kernel) rfl) pa_nil))) (pe_one (pe_cmpR op_eq (pv 0) (pv 1) (nomark _)))))) pss_nil)
      (pss_cons (ps_if (PW.pt (pw_and (pt_val (pe_callB call_isi (by rfl) T.n_isinstance (by decide +kernel) (pa_cons (pv 1) (pa_cons (pe_bltn (v := .ty "tuple") (by rfl) T.n_tuple (by decide +kernel) rfl) pa_nil)))) (pw_and1 (pt_not (pt_val (pe_callB call_isi (by rfl) T.n_isinstance (by decide +kernel) (pa_cons (pv 0) (pa_cons (pe_bltn (v := .ty "tuple") (by rfl) T.n_tuple (by decide +kernel) rfl) pa_nil)))))))) (pss_one (ps_ret pe_bl)) pss_nil)
      (pss_cons (ps_if (PW.pt (pw_and (pt_val (pe_callB call_isi (by rfl) T.n_isinstance (by decide +kernel) (pa_cons (pv 1) (pa_cons (pe_bltn (v := .ty "list") (by rfl) T.n_list (by decide +kernel) rfl) pa_nil)))) (pw_and1 (pt_not (pt_val (pe_callB call_isi (by rfl) T.n_isinstance (by decide +kernel) (pa_cons (pv 0) (pa_cons (pe_bltn (v := .ty "list") (by rfl) T.n_list (by decide +kernel) rfl) pa_nil)))))))) (pss_one (ps_ret pe_bl)) pss_nil)
      (pss_cons (ps_if (pt_cmpR op_ne (pe_callB call_len_seq (by rfl) T.n_len (by decide +kernel) (pa_cons (pv 0) pa_nil)) (pe_callB call_len_seq (by rfl) T.n_len (by decide +kernel) (pa_cons (pv 1) pa_nil)) (nomark _)) (pss_one (ps_ret pe_bl)) pss_nil)
      (pss_one (ps_ret (pe_callB (cr_all rfl) (by rfl) T.n_all (by decide +kernel) (pa_cons (pe_lc (own := [("at", 2)]) (g := gName 2) (tt := tYes) rfl sc_law_equal.nd (pi_range1 (by rfl) T.n_range (pa_cons (pe_callB call_len_seq (by rfl) T.n_len (by decide +kernel) (pa_cons (pv 1) pa_nil)) pa_nil)) (blkOk_by (own := [("at", 2)]) (N := N_law_equal) (sc := defScope s_law_equal) (by decide +kernel)) (fun _ _ _ _ _ => pg_name (i := 2) sc_law_equal.nd rfl (Or.inl rfl)) (fun _ _ _ _ _ => pts_nil) (fun _ _ _ _ _ => (pe_call G__law_equal (hr.mono (by omega)) (by rfl) T.g__law_equal T.F__law_equal.kp T.b__law_equal .nil pass0 (pa_cons (pe_ix (kq_ix K rfl) (pv 0) (pv 2) (fun _ _ => rfl)) (pa_cons (pe_ix (kq_ix K rfl) (pv 1) (pv 2) (fun _ _ => rfl)) pa_nil))))) pa_nil))))))))))), ?_⟩
      have lists : ∀ (a b : Addr) (xs ys : List V) (ds : List PyData), DpAll K H xs ds → DpAll K H ys ds → ds.length ≤ 1000 → ds.all (dep n) = true → (SqL K H a xs ∧ SqL K H b ys ∨ SqT K H a xs ∧ SqT K H b ys) →
          (SqL K H b ys ∨ SqT K H b ys) ∧ (SqL K H a xs ∨ SqT K H a xs) ∧ xs.length = ds.length ∧ ys.length = ds.length ∧ ∀ (i : Nat) (H1 : Hp), i < ds.length → Same H H1 → ∃ x y d, atI xs (0 + (i : Int)) = some x ∧ atI ys (0 + (i : Int)) = some y ∧ Dp K H1 x d ∧ Dp K H1 y d ∧ dep n d = true ∧
            (∀ Q : VK, Q x H1 → rIx K (.ref a) (.int (0 + (i : Int))) H1 Q) ∧ (∀ Q : VK, Q y H1 → rIx K (.ref b) (.int (0 + (i : Int))) H1 Q) := by
        intro a b xs ys ds hx hy hl hd hq
        refine ⟨hq.elim (fun q => .inl q.2) fun q => .inr q.2, hq.elim (fun q => .inl q.1) fun q => .inr q.1, DpAll.length hx, DpAll.length hy, fun i H1 hi s1 => ?_⟩
        have e := List.getElem?_eq_getElem hi
        obtain ⟨x, ex, dx⟩ := DpAll.get hx e
        obtain ⟨y, ey, dy⟩ := DpAll.get hy e
        have ax : atI xs (0 + (i : Int)) = some x := at_of (by omega) ex
        have ay : atI ys (0 + (i : Int)) = some y := at_of (by omega) ey
        refine ⟨x, y, ds[i], ax, ay, keepD s1 _ _ dx, keepD s1 _ _ dy, List.all_eq_true.mp hd _ (List.getElem_mem hi), fun Q q => ?_, fun Q q => ?_⟩
        · rcases hq with ⟨h1, _⟩ | ⟨h1, _⟩
          · exact ixL (s1.seq h1) ax q
          · exact ixT (Same.sqT s1 h1) ax q
        · rcases hq with ⟨_, h1⟩ | ⟨_, h1⟩
          · exact ixL (s1.seq h1) ay q
          · exact ixT (Same.sqT s1 h1) ay q
      cases hu with
      | non =>
        cases hv with
        | non => exact ⟨_, rfl, rfl, _, rfl, iteT ⟨_, rfl, rfl, k _ (Same.refl _)⟩⟩
      | bl b =>
        cases hv with
        | bl =>
          refine ⟨_, rfl, rfl, _, rfl, iteF ?_⟩
          refine ⟨_, rfl, _, .ty "bool", _, _, _, rfl, .ty _, tyx (.bl b), kitBo _, _, rfl, iteT ?_⟩
          exact ⟨_, rfl, _, .ty "bool", _, _, _, rfl, .ty _, tyx (.bl b), kitBo _, _, rfl, iteT ⟨_, rfl, _, rfl, rfl, dself (k _ (Same.refl _))⟩⟩
      | int i =>
        cases hv with
        | int =>
          refine ⟨_, rfl, rfl, _, rfl, iteF ?_⟩
          refine ⟨_, rfl, _, .ty "bool", _, _, _, rfl, .ty _, tyx (.int i), kitBo _, _, rfl, iteF ?_⟩
          refine ⟨_, rfl, _, .ty "int", _, _, _, rfl, .ty _, tyx (.int i), kitI _, _, rfl, iteT ?_⟩
          exact ⟨_, rfl, _, _, rfl, .int i, _, rfl, iteT ⟨_, rfl, _, rfl, rfl, dself (k _ (Same.refl _))⟩⟩
      | str x =>
        cases hv with
        | str =>
          refine ⟨_, rfl, rfl, _, rfl, iteF ?_⟩
          refine ⟨_, rfl, _, .ty "bool", _, _, _, rfl, .ty _, tyx (.str x), kitBo _, _, rfl, iteF ?_⟩
          refine ⟨_, rfl, _, .ty "int", _, _, _, rfl, .ty _, tyx (.str x), kitI _, _, rfl, iteF ?_⟩
          refine ⟨_, rfl, _, .ty "str", _, _, _, rfl, .ty _, tyx (.str x), kitS _, _, rfl, iteT ?_⟩
          exact ⟨_, rfl, _, .ty "str", _, _, _, rfl, .ty _, tyx (.str x), kitS _, _, rfl, iteT ⟨_, rfl, _, rfl, rfl, dself (k _ (Same.refl _))⟩⟩
      | @lst b ys ds hb hy =>
        cases hv with
        | @lst a xs _ ha hx =>
          have hn2 : (decide (ds.length ≤ 1000) && ds.all (dep n)) = true := hn
          rw [Bool.and_eq_true] at hn2
          have hl := of_decide_eq_true hn2.1
          obtain ⟨qb, qa, lx, ly, item⟩ := lists a b xs ys ds hx hy hl hn2.2 (.inl ⟨ha, hb⟩)
          have td := tyx (K := K) (.lst hb hy)
          have ta := tyx (K := K) (.lst ha hx)
          refine ⟨_, rfl, rfl, _, rfl, iteF ?_⟩
          refine ⟨_, rfl, _, .ty "bool", _, _, _, rfl, .ty _, td, kitBo _, _, rfl, iteF ?_⟩
          refine ⟨_, rfl, _, .ty "int", _, _, _, rfl, .ty _, td, kitI _, _, rfl, iteF ?_⟩
          refine ⟨_, rfl, _, .ty "str", _, _, _, rfl, .ty _, td, kitS _, _, rfl, iteF ?_⟩
          refine ⟨_, rfl, _, .ty "tuple", _, _, _, rfl, .ty _, td, kitT _, _, rfl, iteF (iteF ?_)⟩
          refine ⟨_, rfl, _, .ty "list", _, _, _, rfl, .ty _, td, kitL _, _, rfl, iteT ⟨_, rfl, _, .ty "list", _, _, _, rfl, .ty _, ta, kitL _, _, rfl, iteF ?_⟩⟩
          refine ⟨_, rfl, a, xs, rfl, qa, _, rfl, b, ys, rfl, qb, rfl, _, rfl, ?_⟩
          rw [lx, ly, decide_eq_true rfl]
          refine iteF ⟨_, rfl, b, ys, rfl, qb, _, rfl, by omega, by omega, fun D nD => lc_range (lo := 0) (n := ys.length) (fun i H1 => Same H H1 ∧ H1 D = some (.lst (List.replicate i (.bl true)))) ⟨same_upd nD, upd_same⟩ (fun i H1 hi hP => ?_) fun H1 hP => ?_⟩
          · obtain ⟨s1, hD⟩ := hP
            obtain ⟨x, y, d, ax, ay, dx, dy, dn, rx, ry⟩ := item i H1 (by omega) s1
            refine ⟨rfl, _, rfl, _, rfl, rx _ ⟨_, rfl, _, rfl, ry _ ⟨x, y, d, rfl, dx, dy, dn, fun H2 s2 => ⟨_, s2.at hD, ?_, same_fresh (s1.trans s2) nD, ?_⟩⟩⟩⟩
            · rw [List.length_replicate]
              exact small1000 (by omega)
            · rw [upd_same, List.replicate_succ']
          · obtain ⟨s1, hD⟩ := hP
            have e : List.replicate ys.length (V.bl true) = (List.replicate ys.length true).map V.bl := by rw [List.map_replicate]
            rw [e] at hD
            refine ⟨D, List.replicate ys.length true, rfl, .of hD, ?_⟩
            have e2 : (List.replicate ys.length true).all id = true := by
              rw [List.all_eq_true]
              intro z hz
              rw [List.mem_replicate] at hz
              rw [hz.2]
              rfl
            rw [e2]
            exact k _ s1
      | @tup b ys ds hb hy =>
        cases hv with
        | @tup a xs _ ha hx =>
          have hn2 : (decide (ds.length ≤ 1000) && ds.all (dep n)) = true := hn
          rw [Bool.and_eq_true] at hn2
          have hl := of_decide_eq_true hn2.1
          obtain ⟨qb, qa, lx, ly, item⟩ := lists a b xs ys ds hx hy hl hn2.2 (.inr ⟨ha, hb⟩)
          have td := tyx (K := K) (.tup hb hy)
          have ta := tyx (K := K) (.tup ha hx)
          refine ⟨_, rfl, rfl, _, rfl, iteF ?_⟩
          refine ⟨_, rfl, _, .ty "bool", _, _, _, rfl, .ty _, td, kitBo _, _, rfl, iteF ?_⟩
          refine ⟨_, rfl, _, .ty "int", _, _, _, rfl, .ty _, td, kitI _, _, rfl, iteF ?_⟩
          refine ⟨_, rfl, _, .ty "str", _, _, _, rfl, .ty _, td, kitS _, _, rfl, iteF ?_⟩
          refine ⟨_, rfl, _, .ty "tuple", _, _, _, rfl, .ty _, td, kitT _, _, rfl, iteT ⟨_, rfl, _, .ty "tuple", _, _, _, rfl, .ty _, ta, kitT _, _, rfl, iteF ?_⟩⟩
          refine ⟨_, rfl, _, .ty "list", _, _, _, rfl, .ty _, td, kitL _, _, rfl, iteF (iteF ?_)⟩
          refine ⟨_, rfl, a, xs, rfl, qa, _, rfl, b, ys, rfl, qb, rfl, _, rfl, ?_⟩
          rw [lx, ly, decide_eq_true rfl]
          refine iteF ⟨_, rfl, b, ys, rfl, qb, _, rfl, by omega, by omega, fun D nD => lc_range (lo := 0) (n := ys.length) (fun i H1 => Same H H1 ∧ H1 D = some (.lst (List.replicate i (.bl true)))) ⟨same_upd nD, upd_same⟩ (fun i H1 hi hP => ?_) fun H1 hP => ?_⟩
          · obtain ⟨s1, hD⟩ := hP
            obtain ⟨x, y, d, ax, ay, dx, dy, dn, rx, ry⟩ := item i H1 (by omega) s1
            refine ⟨rfl, _, rfl, _, rfl, rx _ ⟨_, rfl, _, rfl, ry _ ⟨x, y, d, rfl, dx, dy, dn, fun H2 s2 => ⟨_, s2.at hD, ?_, same_fresh (s1.trans s2) nD, ?_⟩⟩⟩⟩
            · rw [List.length_replicate]
              exact small1000 (by omega)
            · rw [upd_same, List.replicate_succ']
          · obtain ⟨s1, hD⟩ := hP
            have e : List.replicate ys.length (V.bl true) = (List.replicate ys.length true).map V.bl := by rw [List.map_replicate]
            rw [e] at hD
            refine ⟨D, List.replicate ys.length true, rfl, .of hD, ?_⟩
            have e2 : (List.replicate ys.length true).all id = true := by
              rw [List.all_eq_true]
              intro z hz
              rw [List.mem_replicate] at hz
              rw [hz.2]
              rfl
            rw [e2]
            exact k _ s1
end
section
variable {K : PySem.W.Frag}
theorem DpAll.mem {H : Hp} : ∀ {xs : List V} {ds : List PyData} {i : Nat} {x : V}, DpAll K H xs ds → xs[i]? = some x → ∃ d, ds[i]? = some d ∧ Dp K H x d
  | _, _, _, _, .nil, e => nomatch e
  | _, _, 0, _, .cons h _, e => by
    have e1 := Option.some.inj e
    subst e1
    exact ⟨_, rfl, h⟩
  | _, _, i + 1, _, .cons _ t, e => by
    obtain ⟨x, h1, h2⟩ := DpAll.mem (i := i) t (by simpa using e)
    exact ⟨x, by simpa using h1, h2⟩
theorem ext_fresh {p D : Addr} {H H1 : Hp} {o : HO} (e : Ext p H H1) (h : H D = none) : Ext p H (upd H1 D o) := by
  refine ⟨fun b x n hb t => ?_, fun b hb => ?_⟩
  · rw [upd_ne (ne_of_none hb h)]
    exact e.1 b x n hb t
  · obtain ⟨ps, h1, h2⟩ := hb
    obtain ⟨ps2, h3, h4⟩ := e.2 b ⟨ps, h1, h2⟩
    exact ⟨ps2, by rw [upd_ne (ne_of_none h1 h)]; exact h3, h4⟩
theorem Strm.upd {l p D : Addr} {H : Hp} {o : HO} (h : Strm l H p) (n1 : p ≠ D) (n2 : l ≠ D) : Strm l (upd H D o) p := by
  obtain ⟨ns, c, k, h1, h2, h3⟩ := h
  exact ⟨ns, c, k, by rw [upd_ne n1]; exact h1, by rw [upd_ne n2]; exact h2, h3⟩
theorem Strm.ne {l p D : Addr} {H : Hp} (h : Strm l H p) (n : H D = none) : p ≠ D ∧ l ≠ D := by
  obtain ⟨ns, c, k, h1, h2, h3⟩ := h
  exact ⟨ne_of_none h1 n, ne_of_none h2 n⟩
mutual
def noL : PyData → Bool
  | .list _ => false
  | .tuple ds => noLs ds
  | _ => true
def noLs : List PyData → Bool
  | [] => true
  | d :: ds => noL d && noLs ds
end
mutual
theorem keepN {p : Addr} {H H' : Hp} {ys : List V} (e : Ext p H H') (hp : H p = some (.lst ys)) : ∀ (d : PyData) (v : V), noL d = true → Dp K H v d → Dp K H' v d
  | .none, _, _, .non => .non
  | .bool _, _, _, .bl b => .bl b
  | .int _, _, _, .int i => .int i
  | .str _, _, _, .str x => .str x
  | .list _, _, q, _ => by
    unfold noL at q
    cases q
  | .tuple ds, _, q, .tup h a => by
    unfold noL at q
    exact .tup (e.sqT' hp h) (keepNs e hp ds _ q a)
theorem keepNs {p : Addr} {H H' : Hp} {ys : List V} (e : Ext p H H') (hp : H p = some (.lst ys)) : ∀ (ds : List PyData) (vs : List V), noLs ds = true → DpAll K H vs ds → DpAll K H' vs ds
  | [], _, _, .nil => .nil
  | d :: ds, _, q, .cons h t => by
    unfold noLs at q
    rw [Bool.and_eq_true] at q
    exact .cons (keepN e hp d _ q.1 h) (keepNs e hp ds _ q.2 t)
end
theorem dp_str {H : Hp} {v : V} {x : Str} (h : Dp K H v (.str x)) : v = .str x := by
  cases h
  rfl
end
/-! ### sentences that are right -/
structure WOK (w : Str) : Prop where
  a : inW words (.str w) = true
  b : isStr (.str w) "verb" = false
  c : isStr (.str w) "self" = false
  d : SeqAt.shaped (.str w) = true
structure QOK (w : Str) : Prop where
  a : inW quants (.str w) = true
  d : SeqAt.shaped (.str w) = true
theorem words_ok : ∀ d ∈ words, ∃ w, d = .str w ∧ WOK w := by
  intro d h
  unfold words at h
  simp only [List.mem_cons, List.not_mem_nil, or_false] at h
  rcases h with rfl | rfl | rfl | rfl | rfl | rfl
  all_goals exact ⟨_, rfl, by decide +kernel, by decide +kernel, by decide +kernel, by decide +kernel⟩
theorem quants_ok : ∀ d ∈ quants, ∃ w, d = .str w ∧ QOK w := by
  intro d h
  unfold quants at h
  simp only [List.mem_cons, List.not_mem_nil, or_false] at h
  rcases h with rfl | rfl
  all_goals exact ⟨_, rfl, by decide +kernel, by decide +kernel⟩
inductive Sen (n m : Int) : List PyData → Prop
  | noun (w : Str) (x y : Int) (hw : WOK w) (x0 : 0 ≤ x) (x1 : x < n) (y0 : 0 ≤ y) (y1 : y < n) : Sen n m [.str w, .int x, .int y]
  | self (q : Str) (x : Int) (b : Bool) (v : Int) (hq : QOK q) (x0 : 0 ≤ x) (x1 : x < n) (v0 : 0 ≤ v) (v1 : v < m) : Sen n m [.str "self", .str q, .int x, .bool b, .int v]
  | verb (q : Str) (x : Int) (b : Bool) (v : Int) (c : Bool) (p : Str) (y : Int) (hq : QOK q) (hp : QOK p) (x0 : 0 ≤ x) (x1 : x < n) (v0 : 0 ≤ v) (v1 : v < m) (y0 : 0 ≤ y) (y1 : y < n) : Sen n m [.str "verb", .str q, .int x, .bool b, .int v, .bool c, .str p, .int y]
theorem isInt_in {x n : Int} (h0 : 0 ≤ x) (h1 : x < n) : isInt (.int x) 0 (n - 1) = true := by
  show (decide (0 ≤ x) && decide (x ≤ n - 1)) = true
  rw [decide_eq_true h0, decide_eq_true (show x ≤ n - 1 by omega)]
  rfl
theorem vv : isStr (.str "verb") "verb" = true := by decide +kernel
theorem sv : isStr (.str "self") "verb" = false := by decide +kernel
theorem ss : isStr (.str "self") "self" = true := by decide +kernel
theorem Sen.ok {n m : Int} {ds : List PyData} (h : Sen n m ds) : isSent n m (.tuple ds) = true := by
  cases h with
  | noun w x y hw x0 x1 y0 y1 => simp [isSent, isNS, hw.a, hw.b, hw.c, isInt_in x0 x1, isInt_in y0 y1]
  | self q x b v hq x0 x1 v0 v1 => simp [isSent, isSS, isB, sv, ss, hq.a, isInt_in x0 x1, isInt_in v0 v1]
  | verb q x b v c p y hq hp x0 x1 v0 v1 y0 y1 => simp [isSent, isVS, isB, vv, hq.a, hp.a, isInt_in x0 x1, isInt_in v0 v1, isInt_in y0 y1]
theorem Sen.shs {n m : Int} {ds : List PyData} (h : Sen n m ds) : shs (.tuple ds) = true := by
  cases h with
  | noun w x y hw => simp [V.shs, hw.d, shI]
  | self q x b v hq => simp [V.shs, hq.d, shI, shB, shS "self"]
  | verb q x b v c p y hq hp => simp [V.shs, hq.d, hp.d, shI, shB, shS "verb"]
theorem Sen.safe {n m : Int} {ds : List PyData} (h : Sen n m ds) : safe (.tuple ds) = true := by
  cases h <;> simp [V.safe]
theorem Sen.safeL {n m : Int} {ds : List PyData} (h : Sen n m ds) : V.safe (.list ds) = true := by
  cases h <;> simp [V.safe, okL]
theorem Sen.noL {n m : Int} {ds : List PyData} (h : Sen n m ds) : noL (.tuple ds) = true := by
  cases h <;> simp [V.noL, noLs]
theorem Sen.shaped {n m : Int} {ds : List PyData} (h : Sen n m ds) : SeqAt.shaped (.tuple ds) = true := by
  have hv : PyData.strOk "verb" = true := by decide +kernel
  have hs : PyData.strOk "self" = true := by decide +kernel
  cases h with
  | noun w x y hw =>
    have := hw.d
    simp [SeqAt.shaped, PyData.canLay0, PyData.canLayAll0, PyData.depth, PyData.depthAll] at this ⊢
    simp [this]
  | self q x b v hq =>
    have := hq.d
    simp [SeqAt.shaped, PyData.canLay0, PyData.canLayAll0, PyData.depth, PyData.depthAll, hs] at this ⊢
    simp [this]
  | verb q x b v c p y hq hp =>
    have h1 := hq.d
    have h2 := hp.d
    simp [SeqAt.shaped, PyData.canLay0, PyData.canLayAll0, PyData.depth, PyData.depthAll, hv] at h1 h2 ⊢
    simp [h1, h2]
section
variable {P : Program} {w : World} {K : PySem.W.Frag} {mg : Str → Option Value} {base : Heap}
def spPick (K : PySem.W.Frag) : Sp := fun vs H Q _ => ∃ (p l : Addr) (v : V) (ds : List PyData), vs = [.ref p, v] ∧ Strm l H p ∧ Dp K H v (.list ds) ∧ safe (.list ds) = true ∧ 0 < ds.length ∧ ds.length ≤ 1000 ∧ ∀ H' x d, Ext p H H' → Strm l H' p → d ∈ ds → Dp K H' x d → Q x H'
theorem ok__law_pick (T : Txt K mg) : FnOk P w K mg base CX0 2 T.f__law_pick T.d__law_pick ["stream", "rows"] (spPick K) := by
  have G__law_next := ok__law_next (P := P) (w := w) (base := base) T
  refine T.F__law_pick.ok sc_law_pick (fun vs H Q E h => ?_) (fun cdv A outer s H vs Q E hr h => ?_)
  · obtain ⟨p, l, v, ds, rfl, _⟩ := h
    rfl
  · obtain ⟨p, l, v, ds, rfl, st, hd, sf, h0, hl, k⟩ := h
    cases hd with
    | @lst a xs _ ha hx =>
    refine ⟨_, (pss_one (ps_ret (pe_ix ix_list (pv 1) (pe_call G__law_next (hr.mono (by decide)) (by rfl) T.g__law_next T.F__law_next.kp T.b__law_next .nil pass0 (pa_cons (pv 0) (pa_cons (pe_callB call_len_seq (by rfl) T.n_len (by decide +kernel) (pa_cons (pv 1) pa_nil)) pa_nil))) (fun _ _ => rfl)))), ?_⟩
    have hlen := DpAll.length hx
    refine ⟨_, rfl, _, rfl, _, rfl, a, xs, rfl, .inl ha, p, l, _, rfl, st, by omega, by omega, fun H1 d e1 st1 d0 d1 => ?_⟩
    obtain ⟨j, rfl⟩ := Int.eq_ofNat_of_zero_le d0
    have hj : j < xs.length := by omega
    have hx1 : xs[j]? = some xs[j] := List.getElem?_eq_getElem hj
    obtain ⟨d, ed, dd⟩ := DpAll.mem hx hx1
    have sf2 := sf
    unfold V.safe at sf2
    rw [Bool.and_eq_true] at sf2
    have hmem : d ∈ ds := List.mem_of_getElem? ed
    exact ⟨a, xs, _, _, rfl, rfl, e1.sqL st (nst_of hx sf2.1) ha, atI_nat hx1, k _ _ d e1 st1 hmem (keepX e1 st d _ (safe_all.mp sf2.2 d hmem) dd)⟩
def spSigL (K : PySem.W.Frag) : Sp := fun vs H Q _ => ∃ (p l : Addr), vs = [.ref p] ∧ Strm l H p ∧ ∀ H' v n m, Ext p H H' → Strm l H' p → Sig K H' v n m → 1 ≤ n → n ≤ 4 → 0 ≤ m → m ≤ 2 → Q v H'
theorem ok__law_signature (T : Txt K mg) : FnOk P w K mg base CX0 2 T.f__law_signature T.d__law_signature ["stream"] (spSigL K) := by
  have G__law_next := ok__law_next (P := P) (w := w) (base := base) T
  refine T.F__law_signature.ok sc_law_signature (fun vs H Q E h => ?_) (fun cdv A outer s H vs Q E hr h => ?_)
  · obtain ⟨p, l, rfl, _⟩ := h
    rfl
  · obtain ⟨p, l, rfl, st, k⟩ := h
    refine ⟨_, (pss_one (ps_ret (pe_tup (pa_cons (pe_op op_add pe_int (pe_call G__law_next (hr.mono (by decide)) (by rfl) T.g__law_next T.F__law_next.kp T.b__law_next .nil pass0 (pa_cons (pv 0) (pa_cons pe_int pa_nil)))) (pa_cons (pe_call G__law_next (hr.mono (by decide)) (by rfl) T.g__law_next T.F__law_next.kp T.b__law_next .nil pass0 (pa_cons (pv 0) (pa_cons pe_int pa_nil))) pa_nil))))), ?_⟩
    refine ⟨_, rfl, p, l, 4, rfl, st, by decide, by decide, fun H1 x e1 st1 x0 x1 => ⟨_, _, rfl, rfl, ?_⟩⟩
    refine ⟨_, rfl, p, l, 3, rfl, st1, by decide, by decide, fun H2 y e2 st2 y0 y1 => ⟨by show 2 ≤ sizeLine; decide, fun q nq => ?_⟩⟩
    exact k _ _ (1 + x) y ((e1.trans e2).trans (same_upd nq).ext) (st2.keep (same_upd nq)) ⟨q, rfl, .of upd_same⟩ (by omega) (by omega) y0 (by omega)
def spSen (K : PySem.W.Frag) : Sp := fun vs H Q _ => ∃ (p l : Addr) (v : V) (n m : Int), vs = [.ref p, v] ∧ Strm l H p ∧ Sig K H v n m ∧ (1 ≤ n ∧ n ≤ 4 ∧ 0 ≤ m ∧ m ≤ 2) ∧ ∀ H' x ds, Ext p H H' → Strm l H' p → Dp K H' x (.tuple ds) → Sen n m ds → Q x H'
theorem safe_flat {ds : List PyData} (h : ds.all isS = true) : safe (.list ds) = true := by
  unfold safe
  rw [Bool.and_eq_true]
  constructor
  · match ds, h with
    | [], _ => rfl
    | .str _ :: _, _ => rfl
  · refine safe_all.mpr fun d hd => ?_
    have := List.all_eq_true.mp h d hd
    cases d with
    | str x => unfold safe; rfl
    | _ => cases this
theorem ok__law_sentence (T : Txt K mg) : FnOk P w K mg base CX0 3 T.f__law_sentence T.d__law_sentence ["stream", "signature"] (spSen K) := by
  have G__law_next := ok__law_next (P := P) (w := w) (base := base) T
  have G__law_pick := ok__law_pick (P := P) (w := w) (base := base) T
  refine T.F__law_sentence.ok sc_law_sentence (fun vs H Q E h => ?_) (fun cdv A outer s H vs Q E hr h => ?_)
  · obtain ⟨p, l, v, n, m, rfl, _⟩ := h
    rfl
  · obtain ⟨p, l, v, n, m, rfl, st, ⟨a, rfl, hs⟩, ⟨n0, n1, m0, m1⟩, k⟩ := h
    refine ⟨_, (pss_cons (ps_asg (pv 1) (pg_tup rfl (pgs_cons (pg_name (i := 2) sc_law_sentence.nd rfl (Or.inl rfl)) (pgs_cons (pg_name (i := 3) sc_law_sentence.nd rfl (Or.inl rfl)) pgs_nil))))
      (pss_cons (ps_set (i := 4) sc_law_sentence.nd rfl (Or.inl rfl) (pe_call G__law_next (hr.mono (by decide)) (by rfl) T.g__law_next T.F__law_next.kp T.b__law_next .nil pass0 (pa_cons (pv 0) (pa_cons (pv 2) pa_nil))))
      (pss_cons (ps_set (i := 5) sc_law_sentence.nd rfl (Or.inl rfl) (pe_call G__law_next (hr.mono (by decide)) (by rfl) T.g__law_next T.F__law_next.kp T.b__law_next .nil pass0 (pa_cons (pv 0) (pa_cons (pv 2) pa_nil))))
      (pss_cons (ps_set (i := 6) sc_law_sentence.nd rfl (Or.inl rfl) (pe_call G__law_pick (hr.mono (by decide)) (by rfl) T.g__law_pick T.F__law_pick.kp T.b__law_pick .nil pass0 (pa_cons (pv 0) (pa_cons (pe_lst (pa_cons pe_str (pa_cons pe_str (pa_cons pe_str (pa_cons pe_str (pa_cons pe_str (pa_cons pe_str (pa_cons pe_str (pa_cons pe_str (pa_cons pe_str (pa_cons pe_str (pa_cons pe_str (pa_cons pe_str pa_nil))))))))))))) pa_nil))))
      (pss_cons (ps_if (PW.pt (pw_or (pt_cmpR op_notIn_seq (pv 6) (pe_lst (pa_cons pe_str (pa_cons pe_str pa_nil))) (by rfl)) (pw_or1 (pt_cmpR op_eq (pv 3) pe_int (nomark _))))) (pss_one (ps_ret (pe_tup (pa_cons (pe_call G__law_pick (hr.mono (by decide)) (by rfl) T.g__law_pick T.F__law_pick.kp T.b__law_pick .nil pass0 (pa_cons (pv 0) (pa_cons (pe_lst (pa_cons pe_str (pa_cons pe_str (pa_cons pe_str (pa_cons pe_str (pa_cons pe_str (pa_cons pe_str pa_nil))))))) pa_nil))) (pa_cons (pv 4) (pa_cons (pv 5) pa_nil)))))) pss_nil)
      (pss_cons (ps_set (i := 7) sc_law_sentence.nd rfl (Or.inl rfl) (pe_call G__law_pick (hr.mono (by decide)) (by rfl) T.g__law_pick T.F__law_pick.kp T.b__law_pick .nil pass0 (pa_cons (pv 0) (pa_cons (pe_lst (pa_cons pe_str (pa_cons pe_str pa_nil))) pa_nil))))
      (pss_cons (ps_set (i := 8) sc_law_sentence.nd rfl (Or.inl rfl) (pe_cmpR op_eq (pe_call G__law_next (hr.mono (by decide)) (by rfl) T.g__law_next T.F__law_next.kp T.b__law_next .nil pass0 (pa_cons (pv 0) (pa_cons pe_int pa_nil))) pe_int (nomark _)))
      (pss_cons (ps_set (i := 9) sc_law_sentence.nd rfl (Or.inl rfl) (pe_call G__law_next (hr.mono (by decide)) (by rfl) T.g__law_next T.F__law_next.kp T.b__law_next .nil pass0 (pa_cons (pv 0) (pa_cons (pv 3) pa_nil))))
      (pss_cons (ps_if (pt_cmpR op_eq (pv 6) pe_str (nomark _)) (pss_one (ps_ret (pe_tup (pa_cons pe_str (pa_cons (pv 7) (pa_cons (pv 4) (pa_cons (pv 8) (pa_cons (pv 9) pa_nil)))))))) pss_nil)
      (pss_one (ps_ret (pe_tup (pa_cons pe_str (pa_cons (pv 7) (pa_cons (pv 4) (pa_cons (pv 8) (pa_cons (pv 9) (pa_cons (pe_cmpR op_eq (pe_call G__law_next (hr.mono (by decide)) (by rfl) T.g__law_next T.F__law_next.kp T.b__law_next .nil pass0 (pa_cons (pv 0) (pa_cons pe_int pa_nil))) pe_int (nomark _)) (pa_cons (pe_call G__law_pick (hr.mono (by decide)) (by rfl) T.g__law_pick T.F__law_pick.kp T.b__law_pick .nil pass0 (pa_cons (pv 0) (pa_cons (pe_lst (pa_cons pe_str (pa_cons pe_str pa_nil))) pa_nil))) (pa_cons (pv 5) pa_nil)))))))))))))))))))), ?_⟩
    refine ⟨_, rfl, a, _, rfl, hs, rfl, _, _, rfl, _, _, rfl, rfl, ?_⟩
    refine ⟨_, rfl, _, rfl, p, l, n, rfl, st, by omega, by omega, fun H1 x e1 st1 x0 x1 => ?_⟩
    refine ⟨_, rfl, _, rfl, p, l, n, rfl, st1, by omega, by omega, fun H2 y e2 st2 y0 y1 => ?_⟩
    refine ⟨_, rfl, de_lst (da_cons de_str (da_cons de_str (da_cons de_str (da_cons de_str (da_cons de_str (da_cons de_str (da_cons de_str (da_cons de_str (da_cons de_str (da_cons de_str (da_cons de_str (da_cons de_str da_nil)))))))))))) (by decide) H2 (Same.refl H2) _ fun v3 H3 s3 h3 => ⟨p, l, v3, _, rfl, st2.keep s3, h3, safe_flat (by rfl), by decide, by decide, fun H4 wv d4 e4 st4 mem hd => ?_⟩⟩
    have hw : ∃ w0, d4 = .str w0 := by
      simp only [List.mem_cons, List.not_mem_nil, or_false] at mem
      rcases mem with rfl | rfl | rfl | rfl | rfl | rfl | rfl | rfl | rfl | rfl | rfl | rfl
      all_goals exact ⟨_, rfl⟩
    obtain ⟨w0, rfl⟩ := hw
    have z := dp_str hd
    subst z
    have e04 : Ext p H H4 := ((e1.trans e2).trans s3.ext).trans e4
    have k2 : ∀ (w1 : Str) (H5 : Hp), WOK w1 → Ext p H H5 → Strm l H5 p → ∀ q, H5 q = none → Q (.ref q) (upd H5 q (.tup [.str w1, .int x, .int y])) := by
      intro w1 H5 hw e5 st5 q nq
      exact k _ _ _ (e5.trans (same_upd nq).ext) (st5.keep (same_upd nq)) (.tup (.of upd_same) (.cons (.str _) (.cons (.int _) (.cons (.int _) .nil)))) (.noun w1 x y hw x0 x1 y0 y1)
    refine ⟨_, rfl, dl_lst (K := K) (da_cons de_str (da_cons de_str da_nil)) _ fun l5 vs5 H5 s5 hl5 ha5 => ?_⟩
    have e05 := e04.trans s5.ext
    have st5 := st4.keep s5
    cases ha5 with
    | cons a1 t =>
    cases a1
    cases t with
    | cons a2 t =>
    cases a2
    cases t
    refine ⟨l5, _, rfl, .inl (.of hl5), rfl, rfl, _, rfl, ?_⟩
    by_cases q1 : inV (.str w0) [.str "verb", .str "self"] = true
    · rw [q1]
      refine iteF ⟨_, rfl, rfl, _, rfl, ?_⟩
      by_cases q2 : m = 0
      · rw [decide_eq_true (show V.int m = V.int 0 by rw [q2])]
        refine iteT ?_
        refine ⟨_, rfl, de_lst (da_cons de_str (da_cons de_str (da_cons de_str (da_cons de_str (da_cons de_str (da_cons de_str da_nil)))))) (by decide) H5 (Same.refl H5) _ fun v6 H6 s6 h6 => ⟨p, l, v6, _, rfl, st5.keep s6, h6, safe_flat (by rfl), by decide, by decide, fun H7 wv d7 e7 st7 mem7 hd7 => ?_⟩⟩
        obtain ⟨w1, rfl, hw1⟩ := words_ok d7 mem7
        have z := dp_str hd7
        subst z
        exact ⟨_, rfl, _, rfl, by show 3 ≤ sizeLine; decide, k2 w1 H7 hw1 ((e05.trans s6.ext).trans e7) st7⟩
      · rw [decide_eq_false (show ¬ V.int m = V.int 0 from fun z => q2 (V.int.inj z))]
        refine iteF ?_
        have m1' : 0 < m := by omega
        refine ⟨_, rfl, de_lst (da_cons de_str (da_cons de_str da_nil)) (by decide) H5 (Same.refl H5) _ fun v6 H6 s6 h6 => ⟨p, l, v6, _, rfl, st5.keep s6, h6, safe_flat (by rfl), by decide, by decide, fun H7 qv d7 e7 st7 mem7 hd7 => ?_⟩⟩
        obtain ⟨q7, rfl, hq7⟩ := quants_ok d7 mem7
        have z := dp_str hd7
        subst z
        have e07 := (e05.trans s6.ext).trans e7
        refine ⟨_, rfl, p, l, 2, rfl, st7, by decide, by decide, fun H8 b e8 st8 b0 b1 => ⟨rfl, ?_⟩⟩
        refine ⟨_, rfl, _, rfl, p, l, m, rfl, st8, by omega, by omega, fun H9 v e9 st9 v0 v1 => ?_⟩
        refine ⟨_, rfl, rfl, _, rfl, ite2 (fun _ => ?_) (fun _ => ?_)⟩
        · refine ⟨_, rfl, _, rfl, _, rfl, _, rfl, by show 5 ≤ sizeLine; decide, fun r nr => ?_⟩
          exact k _ _ _ (((e07.trans e8).trans e9).trans (same_upd nr).ext) (st9.keep (same_upd nr)) (.tup (.of upd_same) (.cons (.str _) (.cons (.str _) (.cons (.int _) (.cons (.bl _) (.cons (.int _) .nil)))))) (.self q7 x _ v hq7 x0 x1 v0 v1)
        · refine ⟨_, rfl, _, rfl, _, rfl, _, rfl, _, rfl, p, l, 2, rfl, st9, by decide, by decide, fun HA c eA stA c0 c1 => ⟨rfl, ?_⟩⟩
          refine ⟨_, rfl, de_lst (da_cons de_str (da_cons de_str da_nil)) (by decide) HA (Same.refl HA) _ fun vB HB sB hB => ⟨p, l, vB, _, rfl, stA.keep sB, hB, safe_flat (by rfl), by decide, by decide, fun HC pv dC eC stC memC hdC => ?_⟩⟩
          obtain ⟨pC, rfl, hpC⟩ := quants_ok dC memC
          have z := dp_str hdC
          subst z
          refine ⟨_, rfl, by show 8 ≤ sizeLine; decide, fun r nr => ?_⟩
          exact k _ _ _ (((((e07.trans e8).trans e9).trans eA).trans (sB.ext.trans eC)).trans (same_upd nr).ext) (stC.keep (same_upd nr)) (.tup (.of upd_same) (.cons (.str _) (.cons (.str _) (.cons (.int _) (.cons (.bl _) (.cons (.int _) (.cons (.bl _) (.cons (.str _) (.cons (.int _) .nil))))))))) (.verb q7 x _ v _ pC y hq7 hpC x0 x1 v0 v1 y0 y1)
    · rw [Bool.eq_false_iff.mpr q1]
      refine iteT (iteT ?_)
      refine ⟨_, rfl, de_lst (da_cons de_str (da_cons de_str (da_cons de_str (da_cons de_str (da_cons de_str (da_cons de_str da_nil)))))) (by decide) H5 (Same.refl H5) _ fun v6 H6 s6 h6 => ⟨p, l, v6, _, rfl, st5.keep s6, h6, safe_flat (by rfl), by decide, by decide, fun H7 wv d7 e7 st7 mem7 hd7 => ?_⟩⟩
      obtain ⟨w1, rfl, hw1⟩ := words_ok d7 mem7
      have z := dp_str hd7
      subst z
      exact ⟨_, rfl, _, rfl, by show 3 ≤ sizeLine; decide, k2 w1 H7 hw1 ((e05.trans s6.ext).trans e7) st7⟩
end
section
variable {K : PySem.W.Frag} {σ : St} {H : Hp} {te tb tq : TE} {ta : TA} {d : PyData} {ds es : List PyData} {v : V} {i : Nat}
theorem dp_tup {H : Hp} {v : V} {ds : List PyData} (h : Dp K H v (.tuple ds)) : ∃ a xs, v = .ref a ∧ SqT K H a xs ∧ DpAll K H xs ds := by
  cases h with
  | tup h a => exact ⟨_, _, rfl, h, a⟩
theorem dp_lst {H : Hp} {v : V} {ds : List PyData} (h : Dp K H v (.list ds)) : ∃ a xs, v = .ref a ∧ SqL K H a xs ∧ DpAll K H xs ds := by
  cases h with
  | lst h a => exact ⟨_, _, rfl, h, a⟩
theorem dp_sig {H : Hp} {v : V} {n m : Int} (h : Dp K H v (.tuple [.int n, .int m])) : Sig K H v n m := by
  obtain ⟨a, xs, rfl, hs, ha⟩ := dp_tup h
  cases ha with
  | cons h1 t =>
  cases h1
  cases t with
  | cons h2 t =>
  cases h2
  cases t
  exact ⟨a, rfl, hs⟩
theorem de_listof (e : σ[i]? = some (some v)) (h : Dp K H v (.tuple ds)) : DE K σ H (tCB (fun xs H Q => ∃ p ys, xs = [.ref p] ∧ (SqL K H p ys ∨ SqT K H p ys) ∧ ∀ l, H l = none → Q (.ref l) (upd H l (.lst ys))) (tCons (tVar i) tNil)) (.list ds) := fun H1 s Q k => by
  obtain ⟨a, xs, rfl, hs, ha⟩ := dp_tup (keepD s _ _ h)
  exact ⟨_, e, a, xs, rfl, .inr hs, fun l nl => k _ _ (same_upd nl) (.lst (.of upd_same) (keepDs (same_upd nl) _ _ ha))⟩
theorem de_catA (h1 : DE K σ H te (.tuple ds)) (h2 : DE K σ H tb (.tuple es)) (hl : ds.length + es.length ≤ 1000) : DE K σ H (tOp (rCatA K) te tb) (.tuple (ds ++ es)) := fun H1 s Q k =>
  h1 H1 s _ fun x H2 s2 hx => h2 H2 (s.trans s2) _ fun y H3 s3 hy => by
    obtain ⟨a, xs, rfl, ha, hxs⟩ := dp_tup (keepD s3 _ _ hx)
    obtain ⟨b, ys, rfl, hb, hys⟩ := dp_tup hy
    have l1 := DpAll.length hxs
    have l2 := DpAll.length hys
    exact catA_ok ha hb (small (by omega)) fun t H4 s4 ht => k _ _ ((s2.trans s3).trans s4) (.tup ht (keepDs s4 _ _ (DpAll.append hxs hys)))
theorem de_to {z : Int} {k : Nat} (hz : z = (k : Int)) (h1 : DE K σ H te (.tuple ds)) (hk : k ≤ ds.length) (h2 : DE K σ H tq (.int z)) : DE K σ H (tSl (rSlA K) te tNoPart (tPart tq)) (.tuple (ds.take k)) := fun H1 s Q q =>
  h1 H1 s _ fun x H2 s2 hx => by
    dsimp only [tNoPart]
    refine h2 H2 (s.trans s2) _ fun y H3 s3 hy => ?_
    have ey := dp_int hy
    subst ey
    obtain ⟨a, xs, rfl, ha, hxs⟩ := dp_tup (keepD s3 _ _ hx)
    refine ⟨z, rfl, slA_ok ha fun t H4 s4 ht => q _ _ ((s2.trans s3).trans s4) (.tup ht ?_)⟩
    rw [hz, cut_to (by rw [DpAll.length hxs]; exact hk)]
    exact keepDs s4 _ _ (DpAll.take k hxs)
theorem de_from {z : Int} {k : Nat} (hz : z = (k : Int)) (h1 : DE K σ H te (.tuple ds)) (hk : k ≤ ds.length) (h2 : DE K σ H tq (.int z)) : DE K σ H (tSl (rSlA K) te (tPart tq) tNoPart) (.tuple (ds.drop k)) := fun H1 s Q q =>
  h1 H1 s _ fun x H2 s2 hx => h2 H2 (s.trans s2) _ fun y H3 s3 hy => by
    have ey := dp_int hy
    subst ey
    obtain ⟨a, xs, rfl, ha, hxs⟩ := dp_tup (keepD s3 _ _ hx)
    refine ⟨z, rfl, ?_⟩
    dsimp only [tNoPart]
    refine slA_ok ha fun t H4 s4 ht => q _ _ ((s2.trans s3).trans s4) (.tup ht ?_)
    rw [hz, cut_from (by rw [DpAll.length hxs]; exact hk)]
    exact keepDs s4 _ _ (DpAll.drop k hxs)
theorem de_last (h1 : DE K σ H te (.tuple ds)) (hk : 1 ≤ ds.length) (h2 : DE K σ H tq (.int (-1))) : DE K σ H (tSl (rSlA K) te tNoPart (tPart tq)) (.tuple (ds.take (ds.length - 1))) := fun H1 s Q q =>
  h1 H1 s _ fun x H2 s2 hx => by
    dsimp only [tNoPart]
    refine h2 H2 (s.trans s2) _ fun y H3 s3 hy => ?_
    have ey := dp_int hy
    subst ey
    obtain ⟨a, xs, rfl, ha, hxs⟩ := dp_tup (keepD s3 _ _ hx)
    refine ⟨-1, rfl, slA_ok ha fun t H4 s4 ht => q _ _ ((s2.trans s3).trans s4) (.tup ht ?_)⟩
    have hl := DpAll.length hxs
    rw [cut_last (by omega), hl]
    exact keepDs s4 _ _ (DpAll.take _ hxs)
theorem de_ixT {j : Nat} {z : Int} (hz : z = (j : Int)) (h1 : DE K σ H te (.tuple ds)) (hj : ds[j]? = some d) : DE K σ H (tOp (rIxT K) te (tC (.int z))) d := fun H1 s Q q =>
  h1 H1 s _ fun x H2 s2 hx => by
    obtain ⟨a, xs, rfl, ha, hxs⟩ := dp_tup hx
    obtain ⟨y, ey, dy⟩ := DpAll.get hxs hj
    subst hz
    exact ⟨a, xs, _, y, rfl, rfl, ha, atI_nat ey, q _ _ s2 dy⟩
theorem de_add {a b : Int} (h1 : DE K σ H te (.int a)) (h2 : DE K σ H tb (.int b)) : DE K σ H (tOp (rI0 fun i j => .int (i + j)) te tb) (.int (a + b)) := fun H1 s Q q =>
  h1 H1 s _ fun x H2 s2 hx => h2 H2 (s.trans s2) _ fun y H3 s3 hy => by
    have ex := dp_int hx
    have ey := dp_int hy
    subst ex ey
    exact ⟨a, b, rfl, rfl, q _ _ (s2.trans s3) (.int _)⟩
theorem DpAll.flat {H : Hp} {xs : List V} {ds : List PyData} (h : DpAll K H xs ds) : ∀ k : Nat, DpAll K H (List.replicate k xs).flatten (List.replicate k ds).flatten
  | 0 => .nil
  | k + 1 => by
    rw [List.replicate_succ, List.replicate_succ, List.flatten_cons, List.flatten_cons]
    exact DpAll.append h (DpAll.flat h k)
theorem de_repT {k : Nat} {z : Int} (hz : z = (k : Int)) (h1 : DE K σ H te (.tuple ds)) (hn : ds ≠ []) (h2 : 2 ≤ k) (h3 : k ≤ 1000) (hl : ds.length ≤ 1000) : DE K σ H (tOp (rRepT K) te (tC (.int z))) (.tuple (List.replicate k ds).flatten) := fun H1 s Q q =>
  h1 H1 s _ fun x H2 s2 hx => by
    obtain ⟨a, xs, rfl, ha, hxs⟩ := dp_tup hx
    have hlen := DpAll.length hxs
    refine ⟨a, z, xs, rfl, rfl, ha, ?_, by omega, by omega, by omega, fun p np => q _ _ (s2.trans (same_upd np)) (.tup (.of upd_same) ?_)⟩
    · intro e
      rw [e] at hlen
      exact hn (List.length_eq_zero_iff.mp hlen.symm)
    · rw [hz, Int.toNat_natCast]
      exact keepDs (same_upd np) _ _ (DpAll.flat hxs k)
theorem de_rep {k : Nat} {z : Int} (hz : z = (k : Int)) (h1 : DA K σ H ta ds) (h3 : k ≤ 30) (hl : ds.length ≤ 30) : DE K σ H (tOp rRep (tLst ta) (tC (.int z))) (.list (List.replicate k ds).flatten) := fun H1 s Q q =>
  h1 H1 s _ fun xs H2 s2 hxs => by
    have hlen := DpAll.length hxs
    refine ⟨small (by omega), fun p np => ?_⟩
    refine ⟨p, z, xs, rfl, rfl, upd_same, by omega, by omega, ?_, fun r nr => q _ _ ((s2.trans (same_upd np)).trans (same_upd nr)) (.lst (.of upd_same) ?_)⟩
    · rw [hz, Int.toNat_natCast]
      refine small ?_
      have : xs.length * k ≤ 30 * 30 := Nat.mul_le_mul (by omega) h3
      omega
    · rw [hz, Int.toNat_natCast]
      exact keepDs (same_upd nr) _ _ (keepDs (same_upd np) _ _ (DpAll.flat hxs k))
end
section
variable {r : R2} {ta tb te : TE} {tr t : TA} {σ : St} {H : Hp} {Q : VK}
theorem op_at (h : ta σ H fun x H1 => tb σ H1 fun y H2 => r x y H2 Q) : tOp r ta tb σ H Q := h
theorem lst_at (h : t σ H fun xs H1 => xs.length ≤ sizeLine ∧ ∀ p, H1 p = none → Q (.ref p) (upd H1 p (.lst xs))) : tLst t σ H Q := h
theorem tup_at (h : t σ H fun xs H1 => xs.length ≤ sizeLine ∧ ∀ p, H1 p = none → Q (.ref p) (upd H1 p (.tup xs))) : tTup t σ H Q := h
theorem call_at {sp : Sp} {dvs : List V} {E : XK} (h : t σ H fun vs H1 => sp (vs ++ dvs) H1 Q E) : tCall sp dvs E t σ H Q := h
theorem cons_at {R : List V → Hp → Prop} (h : te σ H fun x H1 => tr σ H1 fun xs H2 => R (x :: xs) H2) : tCons te tr σ H R := h
theorem de_ixL {K : PySem.W.Frag} {z : Int} {j : Nat} {d : PyData} {ds : List PyData} (hz : z = (j : Int)) (h1 : DE K σ H te (.list ds)) (h2 : DE K σ H tb (.int z)) (hj : ds[j]? = some d) : DE K σ H (tOp (rIxL K) te tb) d := fun H1 s Q q =>
  h1 H1 s _ fun x H2 s2 hx => h2 H2 (s.trans s2) _ fun y H3 s3 hy => by
    obtain ⟨a, xs, rfl, ha, hxs⟩ := dp_lst (keepD s3 _ _ hx)
    obtain ⟨y, ey, dy⟩ := DpAll.get hxs hj
    have ez := dp_int hy
    subst ez hz
    exact ⟨a, xs, _, y, rfl, rfl, ha, atI_nat ey, q _ _ (s2.trans s3) dy⟩
end
/-! ### sentences that are wrong -/
def R0 : List PyData := [.str "All", .str "", .none, .int 0, .str "both", .str "most"]
def R1 : List PyData := [.none, .int 0, .int 1, .str "True"]
def R2' (n m : Int) : List PyData := [.int (n + m + 4), .int (-1), .none, .bool true, .str "0"]
def rowOf (n m : Int) : PyData → List PyData
  | .str _ => R0
  | .bool _ => R1
  | _ => R2' n m
structure Bad (n m : Int) (d : PyData) : Prop where
  no : isSent n m d = false
  sh : shs d = true
  sf : safe d = true
structure W0 (e : PyData) : Prop where
  a : inW words e = false
  q : inW quants e = false
  v : isStr e "verb" = false
  s : isStr e "self" = false
  sh : SeqAt.shaped e = true
  sf : safe e = true
theorem w0 : ∀ e ∈ R0, W0 e := by
  intro d h
  unfold R0 at h
  simp only [List.mem_cons, List.not_mem_nil, or_false] at h
  rcases h with rfl | rfl | rfl | rfl | rfl | rfl
  all_goals exact ⟨by decide +kernel, by decide +kernel, by decide +kernel, by decide +kernel, by decide +kernel, by simp [safe]⟩
structure W1 (e : PyData) : Prop where
  b : isB e = false
  sh : SeqAt.shaped e = true
  sf : safe e = true
theorem w1 : ∀ e ∈ R1, W1 e := by
  intro d h
  unfold R1 at h
  simp only [List.mem_cons, List.not_mem_nil, or_false] at h
  rcases h with rfl | rfl | rfl | rfl
  all_goals exact ⟨by decide +kernel, by decide +kernel, by simp [safe]⟩
structure W2 (n m : Int) (e : PyData) : Prop where
  i : isInt e 0 (n - 1) = false
  j : isInt e 0 (m - 1) = false
  sh : SeqAt.shaped e = true
  sf : safe e = true
theorem w2 {n m : Int} (h0 : 0 ≤ n) (h1 : 0 ≤ m) : ∀ e ∈ R2' n m, W2 n m e := by
  intro d h
  unfold R2' at h
  simp only [List.mem_cons, List.not_mem_nil, or_false] at h
  rcases h with rfl | rfl | rfl | rfl | rfl
  · refine ⟨?_, ?_, shI _, by simp [safe]⟩
    · show (decide (0 ≤ n + m + 4) && decide (n + m + 4 ≤ n - 1)) = false
      rw [decide_eq_false (show ¬ n + m + 4 ≤ n - 1 by omega), Bool.and_false]
    · show (decide (0 ≤ n + m + 4) && decide (n + m + 4 ≤ m - 1)) = false
      rw [decide_eq_false (show ¬ n + m + 4 ≤ m - 1 by omega), Bool.and_false]
  · exact ⟨rfl, rfl, shI _, by simp [safe]⟩
  · exact ⟨rfl, rfl, shN, by simp [safe]⟩
  · exact ⟨rfl, rfl, shB _, by simp [safe]⟩
  · exact ⟨rfl, rfl, by decide +kernel, by simp [safe]⟩
theorem bad_at {n m : Int} (h0 : 0 ≤ n) (h1 : 0 ≤ m) {ds : List PyData} {i : Nat} {d e : PyData} (h : Sen n m ds) (hd : ds[i]? = some d) (he : e ∈ rowOf n m d) : Bad n m (.tuple (ds.take i ++ [e] ++ ds.drop (i + 1))) := by
  cases h with
  | noun w x y hw x0 x1 y0 y1 =>
    have hsh := hw.d
    rcases i with _ | _ | _ | i
    · cases hd
      have z := w0 e he
      exact ⟨by simp [isSent, isNS, z.a, z.v, z.s], by simp [shs, z.sh, shI], by simp [safe, z.sf]⟩
    · cases hd
      have z := w2 h0 h1 e he
      exact ⟨by simp [isSent, isNS, hw.b, hw.c, z.i], by simp [shs, z.sh, shI, hsh], by simp [safe, z.sf]⟩
    · cases hd
      have z := w2 h0 h1 e he
      exact ⟨by simp [isSent, isNS, hw.b, hw.c, z.i], by simp [shs, z.sh, shI, hsh], by simp [safe, z.sf]⟩
    · cases hd
  | self q x b v hq x0 x1 v0 v1 =>
    have hsh := hq.d
    have hs := shS "self"
    rcases i with _ | _ | _ | _ | _ | i
    · cases hd
      have z := w0 e he
      exact ⟨by simp [isSent, isNS, z.a, z.v, z.s], by simp [shs, z.sh, shI, shB, hsh], by simp [safe, z.sf]⟩
    · cases hd
      have z := w0 e he
      exact ⟨by simp [isSent, isSS, sv, ss, z.q], by simp [shs, z.sh, shI, shB, hs], by simp [safe, z.sf]⟩
    · cases hd
      have z := w2 h0 h1 e he
      exact ⟨by simp [isSent, isSS, sv, ss, z.i], by simp [shs, z.sh, shI, shB, hs, hsh], by simp [safe, z.sf]⟩
    · cases hd
      have z := w1 e he
      exact ⟨by simp [isSent, isSS, sv, ss, z.b], by simp [shs, z.sh, shI, shB, hs, hsh], by simp [safe, z.sf]⟩
    · cases hd
      have z := w2 h0 h1 e he
      exact ⟨by simp [isSent, isSS, sv, ss, z.j], by simp [shs, z.sh, shI, shB, hs, hsh], by simp [safe, z.sf]⟩
    · cases hd
  | verb q x b v c p y hq hp x0 x1 v0 v1 y0 y1 =>
    have hsh := hq.d
    have hsp := hp.d
    have hs := shS "verb"
    rcases i with _ | _ | _ | _ | _ | _ | _ | _ | i
    · cases hd
      have z := w0 e he
      exact ⟨by simp [isSent, isNS, z.a, z.v, z.s], by simp [shs, z.sh, shI, shB, hsh, hsp], by simp [safe, z.sf]⟩
    · cases hd
      have z := w0 e he
      exact ⟨by simp [isSent, isVS, vv, z.q], by simp [shs, z.sh, shI, shB, hs, hsp], by simp [safe, z.sf]⟩
    · cases hd
      have z := w2 h0 h1 e he
      exact ⟨by simp [isSent, isVS, vv, z.i], by simp [shs, z.sh, shI, shB, hs, hsh, hsp], by simp [safe, z.sf]⟩
    · cases hd
      have z := w1 e he
      exact ⟨by simp [isSent, isVS, vv, z.b], by simp [shs, z.sh, shI, shB, hs, hsh, hsp], by simp [safe, z.sf]⟩
    · cases hd
      have z := w2 h0 h1 e he
      exact ⟨by simp [isSent, isVS, vv, z.j], by simp [shs, z.sh, shI, shB, hs, hsh, hsp], by simp [safe, z.sf]⟩
    · cases hd
      have z := w1 e he
      exact ⟨by simp [isSent, isVS, vv, z.b], by simp [shs, z.sh, shI, shB, hs, hsh, hsp], by simp [safe, z.sf]⟩
    · cases hd
      have z := w0 e he
      exact ⟨by simp [isSent, isVS, vv, z.q], by simp [shs, z.sh, shI, shB, hs, hsh], by simp [safe, z.sf]⟩
    · cases hd
      have z := w2 h0 h1 e he
      exact ⟨by simp [isSent, isVS, vv, z.i], by simp [shs, z.sh, shI, shB, hs, hsh, hsp], by simp [safe, z.sf]⟩
    · cases hd
theorem bad_more {n m : Int} {ds : List PyData} (h : Sen n m ds) : Bad n m (.tuple (ds ++ [.int 0])) := by
  have h1 := shS "self"
  have h2 := shS "verb"
  cases h with
  | noun w x y hw => exact ⟨by simp [isSent, isNS, hw.b, hw.c], by simp [shs, hw.d, shI], by simp [safe]⟩
  | self q x b v hq => exact ⟨by simp [isSent, isSS, sv, ss], by simp [shs, hq.d, shI, shB, h1], by simp [safe]⟩
  | verb q x b v c p y hq hp => exact ⟨by simp [isSent, isVS, vv], by simp [shs, hq.d, hp.d, shI, shB, h2], by simp [safe]⟩
theorem bad_less {n m : Int} {ds : List PyData} (h : Sen n m ds) : Bad n m (.tuple (ds.take (ds.length - 1))) := by
  have h1 := shS "self"
  have h2 := shS "verb"
  cases h with
  | noun w x y hw => exact ⟨by simp [isSent, isNS, hw.b, hw.c], by simp [shs, hw.d, shI], by simp [safe]⟩
  | self q x b v hq => exact ⟨by simp [isSent, isSS, sv, ss], by simp [shs, hq.d, shI, shB, h1], by simp [safe]⟩
  | verb q x b v c p y hq hp => exact ⟨by simp [isSent, isVS, vv], by simp [shs, hq.d, hp.d, shI, shB, h2], by simp [safe]⟩
theorem bad_in {n m : Int} {ds : List PyData} (h : Sen n m ds) : Bad n m (.tuple [.tuple ds]) := by
  have e1 : isStr (.tuple ds) "verb" = false := rfl
  have e2 : isStr (.tuple ds) "self" = false := rfl
  exact ⟨by simp [isSent, isNS, e1, e2], by simp [shs, h.shaped], by have := h.safe; unfold safe; exact safe_all.mpr fun d hd => by rw [List.mem_singleton] at hd; rw [hd]; exact this⟩
theorem bad_flat {n m : Int} {d : PyData} (h : isT d = false) (s : safe d = true) : Bad n m d := by
  cases d with
  | tuple _ => cases h
  | _ => exact ⟨rfl, rfl, s⟩
theorem Sen.len {n m : Int} {ds : List PyData} (h : Sen n m ds) : 3 ≤ ds.length ∧ ds.length ≤ 8 := by
  cases h
  · exact ⟨by show 3 ≤ 3; decide, by show 3 ≤ 8; decide⟩
  · exact ⟨by show 3 ≤ 5; decide, by show 5 ≤ 8; decide⟩
  · exact ⟨by show 3 ≤ 8; decide, by show 8 ≤ 8; decide⟩
section
variable {P : Program} {w : World} {K : PySem.W.Frag} {mg : Str → Option Value} {base : Heap}
def spBad (K : PySem.W.Frag) : Sp := fun vs H Q _ => ∃ (p l : Addr) (v x : V) (n m : Int) (ds : List PyData), vs = [.ref p, v, x] ∧ Strm l H p ∧ Sig K H v n m ∧ (1 ≤ n ∧ n ≤ 4 ∧ 0 ≤ m ∧ m ≤ 2) ∧ Dp K H x (.tuple ds) ∧ Sen n m ds ∧ ∀ H' y d, Ext p H H' → Strm l H' p → Dp K H' y d → Bad n m d → Q y H'
theorem row_safe {n m : Int} (n0 : 0 ≤ n) (m0 : 0 ≤ m) (d : PyData) : safe (.list (rowOf n m d)) = true := by
  have h0 : safe (.list R0) = true := by
    unfold safe
    rw [Bool.and_eq_true]
    exact ⟨rfl, safe_all.mpr fun e he => (w0 e he).sf⟩
  have h1 : safe (.list R1) = true := by
    unfold safe
    rw [Bool.and_eq_true]
    exact ⟨rfl, safe_all.mpr fun e he => (w1 e he).sf⟩
  have h2 : safe (.list (R2' n m)) = true := by
    unfold safe
    rw [Bool.and_eq_true]
    exact ⟨rfl, safe_all.mpr fun e he => (w2 n0 m0 e he).sf⟩
  cases d with
  | str _ => exact h0
  | bool _ => exact h1
  | _ => exact h2
theorem row_len {n m : Int} (d : PyData) : 0 < (rowOf n m d).length ∧ (rowOf n m d).length ≤ 1000 := by
  cases d with
  | str _ => exact ⟨by show 0 < 6; decide, by show 6 ≤ 1000; decide⟩
  | bool _ => exact ⟨by show 0 < 4; decide, by show 4 ≤ 1000; decide⟩
  | _ => exact ⟨by show 0 < 5; decide, by show 5 ≤ 1000; decide⟩
theorem ok__law_bad (T : Txt K mg) : FnOk P w K mg base CX0 3 T.f__law_bad T.d__law_bad ["stream", "signature", "sentence"] (spBad K) := by
  have G__law_next := ok__law_next (P := P) (w := w) (base := base) T
  have G__law_pick := ok__law_pick (P := P) (w := w) (base := base) T
  refine T.F__law_bad.ok sc_law_bad (fun vs H Q E h => ?_) (fun cdv A outer s H vs Q E hr h => ?_)
  · obtain ⟨p, l, v, x, n, m, ds, rfl, _⟩ := h
    rfl
  · obtain ⟨p, l, v, x, n, m, ds, rfl, st, hsig, ⟨n0, n1, m0, m1⟩, hd, sen, k⟩ := h
    refine ⟨_, (pss_cons (ps_set (i := 3) sc_law_bad.nd rfl (Or.inl rfl) (pe_call G__law_next (hr.mono (by decide)) (by rfl) T.g__law_next T.F__law_next.kp T.b__law_next .nil pass0 (pa_cons (pv 0) (pa_cons (pe_callB call_len_seq (by rfl) T.n_len (by decide +kernel) (pa_cons (pv 2) pa_nil)) pa_nil))))
      (pss_cons (ps_set (i := 4) sc_law_bad.nd rfl (Or.inl rfl) pe_int)
      (pss_cut (ps_if (pt_val (pe_callB call_isi (by rfl) T.n_isinstance (by decide +kernel) (pa_cons (pe_ix ix_tup (pv 2) (pv 3) (fun _ _ => rfl)) (pa_cons (pe_bltn (v := .ty "str") (by rfl) T.n_str (by decide +kernel) rfl) pa_nil)))) (pss_one (ps_set (i := 4) sc_law_bad.nd rfl (Or.inl rfl) pe_int)) (pss_one (ps_if (pt_val (pe_callB call_isi (by rfl) T.n_isinstance (by decide +kernel) (pa_cons (pe_ix ix_tup (pv 2) (pv 3) (fun _ _ => rfl)) (pa_cons (pe_bltn (v := .ty "bool") (by rfl) T.n_bool (by decide +kernel) rfl) pa_nil)))) (pss_one (ps_set (i := 4) sc_law_bad.nd rfl (Or.inl rfl) pe_int)) pss_nil)))
      (pss_cons (ps_set (i := 5) sc_law_bad.nd rfl (Or.inl rfl) (pe_ix ix_list (pe_lst (pa_cons (pe_lst (pa_cons pe_str (pa_cons pe_str (pa_cons pe_non (pa_cons pe_int (pa_cons pe_str (pa_cons pe_str pa_nil))))))) (pa_cons (pe_lst (pa_cons pe_non (pa_cons pe_int (pa_cons pe_int (pa_cons pe_str pa_nil))))) (pa_cons (pe_lst (pa_cons (pe_op op_add (pe_op op_add (pe_ix ix_tup (pv 1) pe_int (fun _ _ => rfl)) (pe_ix ix_tup (pv 1) pe_int (fun _ _ => rfl))) pe_int) (pa_cons (pe_un un_neg pe_int) (pa_cons pe_non (pa_cons pe_bl (pa_cons pe_str pa_nil)))))) pa_nil)))) (pv 4) (fun _ _ => rfl)))
      (pss_cons (ps_set (i := 6) sc_law_bad.nd rfl (Or.inl rfl) (pe_op op_rep (pe_lst (pa_cons (pe_op op_catA (pe_op op_catA (pe_slice sl_tupA (pv 2) po_none (po_some (pv 3))) (pe_tup (pa_cons (pe_call G__law_pick (hr.mono (by decide)) (by rfl) T.g__law_pick T.F__law_pick.kp T.b__law_pick .nil pass0 (pa_cons (pv 0) (pa_cons (pv 5) pa_nil))) pa_nil))) (pe_slice sl_tupA (pv 2) (po_some (pe_op op_add (pv 3) pe_int)) po_none)) pa_nil)) pe_int))
      (pss_one (ps_ret (pe_call G__law_pick (hr.mono (by decide)) (by rfl) T.g__law_pick T.F__law_pick.kp T.b__law_pick .nil pass0 (pa_cons (pv 0) (pa_cons (pe_op op_cat (pv 6) (pe_lst (pa_cons pe_non (pa_cons (pe_callTy call_list_of (by rfl) T.n_list (by decide +kernel) (pa_cons (pv 2) pa_nil)) (pa_cons (pe_op op_catA (pv 2) (pe_tup (pa_cons pe_int pa_nil))) (pa_cons (pe_slice sl_tupA (pv 2) po_none (po_some (pe_un un_neg pe_int))) (pa_cons (pe_tup pa_nil) (pa_cons (pe_tup (pa_cons (pv 2) pa_nil)) (pa_cons (pe_ix ix_tup (pv 2) pe_int (fun _ _ => rfl)) pa_nil))))))))) pa_nil)))))))))), ?_⟩
    have n0' : 0 ≤ n := by omega
    obtain ⟨a, xs, rfl, hs, hx⟩ := dp_tup hd
    have hlen := DpAll.length hx
    obtain ⟨ln3, ln8⟩ := sen.len
    refine ⟨_, rfl, _, rfl, a, xs, rfl, .inr hs, p, l, _, rfl, st, by omega, by omega, fun H1 at1 e1 st1 at0 at2 => ?_⟩
    obtain ⟨j, rfl⟩ := Int.eq_ofNat_of_zero_le at0
    have hj : j < ds.length := by omega
    have hd1 := keepX e1 st _ _ sen.safe hd
    have hsig1 := e1.sig st hsig
    have hs1 := e1.sqT st hs
    have hget := List.getElem?_eq_getElem hj
    obtain ⟨y, ey, dy0⟩ := DpAll.get hx hget
    have hsy : safe ds[j] = true := by
      have := sen.safe
      unfold safe at this
      exact safe_all.mp this _ (List.getElem_mem hj)
    have dy := keepX e1 st _ _ hsy dy0
    have hat : atI xs (j : Int) = some y := atI_nat ey
    refine ⟨fun σ' H' => ∃ kd : Nat, σ' = [some (.ref p), some v, some (.ref a), some (.int j), some (.int kd), none, none] ∧ H1 = H' ∧ ([.list R0, .list R1, .list (R2' n m)] : List PyData)[kd]? = some (.list (rowOf n m ds[j])), ?_, ?_⟩
    · refine ⟨_, rfl, _, rfl, a, xs, _, y, rfl, rfl, hs1, hat, y, .ty "str", _, _, _, rfl, .ty _, tyx dy, kitS _, _, rfl, ?_⟩
      have two : ∀ q : isS ds[j] = false, ∀ R : Prop, (isB ds[j] = true → R) → (isB ds[j] = false → R) → R := fun _ R a b => by
        cases h : isB ds[j] with
        | true => exact a h
        | false => exact b h
      cases q1 : isS ds[j] with
      | true =>
        refine iteT ⟨0, rfl, rfl, ?_⟩
        cases q : ds[j] with
        | str _ => rfl
        | _ => rw [q] at q1; cases q1
      | false =>
        refine iteF ⟨_, rfl, _, rfl, a, xs, _, y, rfl, rfl, hs1, hat, y, .ty "bool", _, _, _, rfl, .ty _, tyx dy, kitBo _, _, rfl, ?_⟩
        cases q2 : isB ds[j] with
        | true =>
          refine iteT ⟨1, rfl, rfl, ?_⟩
          cases q : ds[j] with
          | bool _ => rfl
          | _ => rw [q] at q2; cases q2
        | false =>
          refine iteF ⟨2, rfl, rfl, ?_⟩
          cases q : ds[j] with
          | bool _ => rw [q] at q2; cases q2
          | str _ => rw [q] at q1; cases q1
          | _ => rfl
    · rintro _ _ ⟨kd, rfl, rfl, hk⟩
      have hsg : Dp K H1 v (.tuple [.int n, .int m]) := hsig1.dp
      dsimp only [tSeq, tAsg]
      refine de_ixL (K := K) (j := kd) rfl (de_lst (da_cons (de_lst (da_cons de_str (da_cons de_str (da_cons de_non (da_cons de_int (da_cons de_str (da_cons de_str da_nil))))))) (da_cons (de_lst (da_cons de_non (da_cons de_int (da_cons de_int (da_cons de_str da_nil))))) (da_cons (de_lst (da_cons (de_add (de_add (de_ixT (j := 0) rfl (de_var rfl hsg) rfl) (de_ixT (j := 1) rfl (de_var rfl hsg) rfl)) de_int) (da_cons de_neg (da_cons de_non (da_cons de_bl (da_cons de_str da_nil)))))) da_nil))) (by show 3 ≤ 1000; decide)) (de_var rfl (.int _)) hk H1 (Same.refl H1) _ fun rv H2 s2 drv => ?_
      have hd2 := keepD s2 _ _ hd1
      refine op_at (lst_at (cons_at (op_at (op_at (de_to (K := K) (k := j) rfl (de_var rfl hd2) (by omega) (de_var rfl (.int _)) H2 (Same.refl H2) _ fun t1 H3 s3 h3 => ?_)))))
      have st3 := st1.keep (s2.trans s3)
      refine ⟨_, rfl, _, rfl, p, l, rv, _, rfl, st3, keepD s3 _ _ drv, row_safe n0' m0 _, (row_len _).1, (row_len _).2, fun H4 ev e e4 st4 mem hev => ⟨by show 1 ≤ sizeLine; decide, fun q nq => ?_⟩⟩
      have bad0 := bad_at n0' m0 sen hget mem
      have hd3 := keepD s3 _ _ hd2
      have hd4 := keepX e4 st3 _ _ sen.safe hd3
      have sft : safe (.tuple (ds.take j)) = true := by
        have := sen.safe
        unfold safe at this ⊢
        exact safe_all.mpr fun d hd => safe_all.mp this d (List.mem_of_mem_take hd)
      have h4 := keepX e4 st3 _ _ sft h3
      have s4 : Same H4 (upd H4 q (.tup [ev])) := same_upd nq
      obtain ⟨ta, tx, rfl, hta, htx⟩ := dp_tup (keepD s4 _ _ h4)
      have ltx := DpAll.length htx
      rw [List.length_take] at ltx
      refine catA_ok (K := K) hta (.of upd_same) (small (by show tx.length + 1 ≤ 1000; omega)) fun t2 H5 s5 ht2 => ?_
      have h5' : Dp K H5 (.ref t2) (.tuple (ds.take j ++ [e])) := .tup ht2 (keepDs s5 _ _ (DpAll.append htx (.cons (keepD s4 _ _ hev) .nil)))
      have hd5 := keepD (s4.trans s5) _ _ hd4
      refine de_from (K := K) (k := j + 1) (z := (j : Int) + 1) (by omega) (de_var rfl hd5) (by omega) (de_add (de_var rfl (.int _)) de_int) H5 (Same.refl H5) _ fun t3 H6 s6 h6 => ?_
      obtain ⟨ua, ux, e7, hua, hux⟩ := dp_tup (keepD s6 _ _ h5')
      cases e7
      obtain ⟨va, vx, rfl, hva, hvx⟩ := dp_tup h6
      have lux := DpAll.length hux
      have lvx := DpAll.length hvx
      rw [List.length_append, List.length_take, List.length_singleton] at lux
      rw [List.length_drop] at lvx
      refine catA_ok (K := K) hua hva (small (by omega)) fun t4 H7 s7 ht4 => ⟨by show 1 ≤ sizeLine; decide, fun r nr => ?_⟩
      have h7 : Dp K H7 (.ref t4) (.tuple (ds.take j ++ [e] ++ ds.drop (j + 1))) := .tup ht4 (keepDs s7 _ _ (DpAll.append hux hvx))
      have s8 : Same H7 (upd H7 r (.lst [.ref t4])) := same_upd nr
      refine ⟨r, 6, _, rfl, rfl, upd_same, by decide, by decide, by show 6 ≤ sizeLine; decide, fun u nu => ?_⟩
      generalize hH9 : upd (upd H7 r (.lst [.ref t4])) u (.lst (List.replicate (6 : Int).toNat [V.ref t4]).flatten) = H9
      have hu9 : H9 u = some (.lst (List.replicate 6 [V.ref t4]).flatten) := by rw [← hH9, upd_same]; rfl
      have s9 : Same (upd H7 r (.lst [.ref t4])) H9 := by rw [← hH9]; exact same_upd nu
      have hflat : DpAll K H9 (List.replicate 6 [V.ref t4]).flatten (List.replicate 6 [PyData.tuple (ds.take j ++ [e] ++ ds.drop (j + 1))]).flatten := DpAll.flat (.cons (keepD s9 _ _ (keepD s8 _ _ h7)) .nil) 6
      have hd9 := keepD (((s6.trans s7).trans s8).trans s9) _ _ hd5
      have st9 : Strm l H9 p := ((((((st4.keep s4).keep s5).keep s6).keep s7).keep s8).keep s9)
      have z0 : ds[0]? = some ds[0] := List.getElem?_eq_getElem (by omega)
      refine ⟨_, rfl, _, rfl, dl_lst (K := K) (da_cons de_non (da_cons (de_listof rfl hd9) (da_cons (de_catA (de_var rfl hd9) (de_tup (da_cons de_int da_nil)) (by show ds.length + 1 ≤ 1000; omega)) (da_cons (de_last (de_var rfl hd9) (by omega) de_neg) (da_cons (de_tup da_nil) (da_cons (de_tup (da_cons (de_var rfl hd9) da_nil)) (da_cons (de_ixT (j := 0) rfl (de_var rfl hd9) z0) da_nil))))))) _ (fun g vs10 H10 s10 hg hvs => ?_) (by show 7 ≤ 1000; decide)⟩
      have lvs := DpAll.length hvs
      refine cat_ok (s10.at hu9) hg (small (by rw [lvs]; show 6 + 7 ≤ 1000; decide)) fun f H11 s11 hf => ?_
      have hall := DpAll.append (keepDs (s10.trans s11) _ _ hflat) (keepDs s11 _ _ hvs)
      have st11 := (st9.keep s10).keep s11
      have bads : ∀ d, d ∈ ((List.replicate 6 [PyData.tuple (ds.take j ++ [e] ++ ds.drop (j + 1))]).flatten ++ [.none, .list ds, .tuple (ds ++ [.int 0]), .tuple (ds.take (ds.length - 1)), .tuple [], .tuple [.tuple ds], ds[0]]) → Bad n m d := by
        intro d hd
        rw [List.mem_append] at hd
        rcases hd with hd | hd
        · have : d = PyData.tuple (ds.take j ++ [e] ++ ds.drop (j + 1)) := by
            rw [List.mem_flatten] at hd
            obtain ⟨q, hq, hq2⟩ := hd
            rw [List.mem_replicate] at hq
            rw [hq.2, List.mem_singleton] at hq2
            exact hq2
          rw [this]
          exact bad0
        · simp only [List.mem_cons, List.not_mem_nil, or_false] at hd
          rcases hd with rfl | rfl | rfl | rfl | rfl | rfl | rfl
          · exact bad_flat rfl (by unfold safe; rfl)
          · exact bad_flat rfl sen.safeL
          · exact bad_more sen
          · exact bad_less sen
          · exact ⟨rfl, rfl, by unfold safe; rfl⟩
          · exact bad_in sen
          · cases sen <;> exact bad_flat rfl (by simp [safe])
      refine ⟨p, l, .ref f, _, rfl, st11, .lst (.of hf) hall, ?_, by show 0 < 13; decide, by show 13 ≤ 1000; decide, fun H12 yv d e12 st12 mem2 hy => ?_⟩
      · unfold safe
        rw [Bool.and_eq_true]
        exact ⟨rfl, safe_all.mpr fun d hd => (bads d hd).sf⟩
      · exact k _ _ d (((((e1.trans (s2.trans s3).ext).trans e4).trans (((((s4.trans s5).trans s6).trans s7).trans s8).trans s9).ext).trans (s10.trans s11).ext).trans e12) st12 hy (bads d mem2)
end
section
variable {K : PySem.W.Frag} {σ : St} {H : Hp} {te tb tq : TE} {ta : TA} {d : PyData} {ds es : List PyData} {v : V} {i : Nat} {E : XK} {b : Bool}
theorem da1 {vs : List V} (h : DpAll K H vs [d]) : ∃ v, vs = [v] ∧ Dp K H v d := by
  cases h with
  | cons h t =>
  cases t
  exact ⟨_, rfl, h⟩
theorem da2 {vs : List V} {e : PyData} (h : DpAll K H vs [d, e]) : ∃ v u, vs = [v, u] ∧ Dp K H v d ∧ Dp K H u e := by
  cases h with
  | cons h t =>
  obtain ⟨u, rfl, h2⟩ := da1 t
  exact ⟨_, _, rfl, h, h2⟩
theorem de_isSig (h : DA K σ H ta [d]) (e : isSig d = b) : DE K σ H (tCall (spSignature K) [] E ta) (.bool b) := fun H1 s Q k =>
  h H1 s _ fun vs H2 s2 ha => by
    obtain ⟨v, rfl, hv⟩ := da1 ha
    refine ⟨v, d, rfl, hv, ?_⟩
    rw [e]
    exact k _ _ s2 (.bl b)
theorem de_isSent {n m : Int} (h : DA K σ H ta [.tuple [.int n, .int m], d]) (hs : shs d = true) (e : isSent n m d = b) : DE K σ H (tCall (spSentence K) [] E ta) (.bool b) := fun H1 s Q k =>
  h H1 s _ fun vs H2 s2 ha => by
    obtain ⟨v, u, rfl, hv, hu⟩ := da2 ha
    refine ⟨v, u, d, n, m, rfl, dp_sig hv, hu, hs, ?_⟩
    rw [e]
    exact k _ _ s2 (.bl b)
theorem de_prem {P : Addr} {n m : Int} (h : DA K σ H ta [.tuple [.int n, .int m], d]) (hs : shss d = true) (e : isPrem n m d = b) (tg : GxR.TabG H P) : DE K σ H (tCall (spPremises K P) [] E ta) (.bool b) := fun H1 s Q k =>
  h H1 s _ fun vs H2 s2 ha => by
    obtain ⟨v, u, rfl, hv, hu⟩ := da2 ha
    refine ⟨v, u, d, n, m, rfl, dp_sig hv, hu, hs, (s.trans s2).2 _ tg, fun H3 s3 => ?_⟩
    rw [e]
    exact k _ _ (s2.trans s3) (.bl b)
end
/-! ### premises and signatures that are wrong -/
def Sens (n m : Int) (dss : List PyData) : Prop := ∀ d ∈ dss, ∃ ds, d = .tuple ds ∧ Sen n m ds
structure BadP (n m : Int) (d : PyData) : Prop where
  no : isPrem n m d = false
  sh : shss d = true
  sf : safe d = true
theorem Sens.sfs {n m : Int} {dss : List PyData} (h : Sens n m dss) : ∀ d ∈ dss, safe d = true := fun d hd => by
  obtain ⟨ds, rfl, hs⟩ := h d hd
  exact hs.safe
theorem Sens.shss {n m : Int} {dss : List PyData} (h : Sens n m dss) : shss (.tuple dss) = true := List.all_eq_true.mpr fun d hd => by
  obtain ⟨ds, rfl, hs⟩ := h d hd
  exact hs.shs
theorem okL_of {ds : List PyData} (h : ∀ a b c, ds = [a, .int b, .int c] → False) : okL ds = true := by
  unfold okL
  split
  · exact (h _ _ _ rfl).elim
  · exact (h _ _ _ rfl).elim
  · rfl
theorem Sens.safeL {n m : Int} {dss : List PyData} (h : Sens n m dss) : safe (.list dss) = true := by
  unfold safe
  rw [Bool.and_eq_true]
  refine ⟨okL_of fun a b c z => ?_, safe_all.mpr h.sfs⟩
  obtain ⟨ds, e, _⟩ := h (.int b) (by rw [z]; simp)
  cases e
theorem bp_ins {n m : Int} {dss : List PyData} {bd : PyData} {c : Nat} (h : Sens n m dss) (hb : Bad n m bd) : BadP n m (.tuple (dss.take c ++ [bd] ++ dss.drop c)) := by
  have h1 := List.all_eq_true.mp h.shss
  refine ⟨?_, ?_, ?_⟩
  · simp [isPrem, hb.no]
  · show (dss.take c ++ [bd] ++ dss.drop c).all shs = true
    rw [List.all_eq_true]
    intro d hd
    simp only [List.mem_append, List.mem_singleton] at hd
    rcases hd with (hd | rfl) | hd
    · exact h1 d (List.mem_of_mem_take hd)
    · exact hb.sh
    · exact h1 d (List.mem_of_mem_drop hd)
  · unfold safe
    refine safe_all.mpr fun d hd => ?_
    simp only [List.mem_append, List.mem_singleton] at hd
    rcases hd with (hd | rfl) | hd
    · exact h.sfs d (List.mem_of_mem_take hd)
    · exact hb.sf
    · exact h.sfs d (List.mem_of_mem_drop hd)
theorem rep_mem {k : Nat} {x d : PyData} (h : d ∈ (List.replicate k [x]).flatten) : d = x := by
  rw [List.mem_flatten] at h
  obtain ⟨q, hq, hq2⟩ := h
  rw [List.mem_replicate] at hq
  rw [hq.2, List.mem_singleton] at hq2
  exact hq2
theorem bp_nine {n m : Int} {ds : List PyData} (h : Sen n m ds) : BadP n m (.tuple (List.replicate 9 [PyData.tuple ds]).flatten) := by
  refine ⟨?_, List.all_eq_true.mpr fun d hd => ?_, ?_⟩
  · simp [isPrem]
  · rw [rep_mem hd]
    exact h.shs
  · unfold safe
    exact safe_all.mpr fun d hd => by
      rw [rep_mem hd]
      exact h.safe
theorem bp_sen {n m : Int} {ds : List PyData} (h : Sen n m ds) : BadP n m (.tuple ds) := by
  refine ⟨?_, ?_, h.safe⟩
  · cases h <;> simp [isPrem, isSent]
  · cases h <;> simp [shss, shs]
theorem bp_flat {n m : Int} {d : PyData} (h : isT d = false) (s : safe d = true) : BadP n m d := by
  cases d with
  | tuple _ => cases h
  | _ => exact ⟨rfl, rfl, s⟩
theorem eight {n m : Int} {ds : List PyData} (h : Sen n m ds) : isPrem n m (.tuple (List.replicate 8 [PyData.tuple ds]).flatten) = true := by
  show (decide (8 ≤ 8) && ((List.replicate 8 [PyData.tuple ds]).flatten).all (isSent n m)) = true
  rw [decide_eq_true (by decide), Bool.true_and, List.all_eq_true]
  intro d hd
  rw [rep_mem hd]
  exact h.ok
theorem rep_shss {n m : Int} {ds : List PyData} {k : Nat} (h : Sen n m ds) : shss (.tuple (List.replicate k [PyData.tuple ds]).flatten) = true := List.all_eq_true.mpr fun d hd => by
  rw [rep_mem hd]
  exact h.shs
structure BadG (d : PyData) : Prop where
  no : isSig d = false
  sf : safe d = true
def Odd (n m : Int) : List PyData := [.none, .list [.int n, .int m], .tuple ([.int n, .int m].take 1), .tuple ([.int n, .int m] ++ [.int 0]), .tuple [.int 0, .int 1], .tuple [.int 5, .int 0], .tuple [.int 1, .int 3], .tuple [.int 1, .int (-1)], .tuple [.bool true, .int 0], .tuple [.int 1, .bool true], .tuple [.str "1", .int 0], .int 2]
theorem odd_bad {n m : Int} : ∀ d ∈ Odd n m, BadG d := by
  intro d h
  unfold Odd at h
  simp only [List.mem_cons, List.not_mem_nil, or_false] at h
  rcases h with rfl | rfl | rfl | rfl | rfl | rfl | rfl | rfl | rfl | rfl | rfl | rfl
  · exact ⟨rfl, by simp [safe]⟩
  · exact ⟨rfl, by simp [safe, okL]⟩
  all_goals exact ⟨rfl, by simp [safe]⟩
theorem sent4 {n m : Int} : isSent n m (.tuple [.str "all", .int 0, .int n]) = false := by
  have e1 : isStr (.str "all") "verb" = false := by decide +kernel
  have e2 : isStr (.str "all") "self" = false := by decide +kernel
  have e3 : isInt (.int n) 0 (n - 1) = false := by
    show (decide (0 ≤ n) && decide (n ≤ n - 1)) = false
    rw [decide_eq_false (show ¬ n ≤ n - 1 by omega), Bool.and_false]
  simp [isSent, isNS, e1, e2, e3]
theorem sent5 {n m : Int} : isSent n m (.tuple [.str "self", .str "all", .int 0, .bool true, .int m]) = false := by
  have e3 : isInt (.int m) 0 (m - 1) = false := by
    show (decide (0 ≤ m) && decide (m ≤ m - 1)) = false
    rw [decide_eq_false (show ¬ m ≤ m - 1 by omega), Bool.and_false]
  simp [isSent, isSS, sv, ss, e3]
theorem sh4 {n : Int} : shs (.tuple [.str "all", .int 0, .int n]) = true := by simp [shs, shS "all", shI]
theorem sh5 {m : Int} : shs (.tuple [.str "self", .str "all", .int 0, .bool true, .int m]) = true := by simp [shs, shS "all", shS "self", shI, shB]
section
variable {P : Program} {w : World} {K : PySem.W.Frag} {mg : Str → Option Value} {base : Heap}
def splaw (K : PySem.W.Frag) (ps : List Addr) : Sp := fun vs H Q _ => ∃ (a : Addr) (ns : List Int), vs = [.ref a] ∧ SqL K H a (ns.map V.int) ∧ ns.length ≤ 63 ∧ (∀ P ∈ ps, GxR.TabG H P) ∧ ∀ H', Q (.bl true) H'
theorem noLs_of {n m : Int} : ∀ {dss : List PyData}, Sens n m dss → noLs dss = true
  | [], _ => by
    unfold noLs
    rfl
  | d :: dss, h => by
    unfold noLs
    obtain ⟨ds, rfl, hs⟩ := h d List.mem_cons_self
    rw [hs.noL, Bool.true_and]
    exact noLs_of fun e he => h e (List.mem_cons_of_mem _ he)
theorem ok_law {f : Addr} {fd : FuncData} (F : Fun K "law" "law" slaw f fd) (T : Txt K mg) (TB_are_premises : GxR.TabB base mg T.cc_are_premises T.pp_are_premises) : FnOk P w K mg base CX0 7 f fd ["script"] (splaw K [T.pp_are_premises]) := by
  have G__law_stream := ok__law_stream (P := P) (w := w) (base := base) T
  have G__law_signature := ok__law_signature (P := P) (w := w) (base := base) T
  have G__law_sentence := ok__law_sentence (P := P) (w := w) (base := base) T
  have G__law_next := ok__law_next (P := P) (w := w) (base := base) T
  have G__law_equal := ok__law_equal (P := P) (w := w) (base := base) T 2
  have G_is_signature := ok_is_signature (P := P) (w := w) (base := base) T
  have G_is_sentence := ok_is_sentence (P := P) (w := w) (base := base) T
  have G_are_premises := ok_are_premises (P := P) (w := w) (base := base) T TB_are_premises
  have G__law_bad := ok__law_bad (P := P) (w := w) (base := base) T
  have G__law_pick := ok__law_pick (P := P) (w := w) (base := base) T
  refine F.ok sclaw (fun vs H Q E h => ?_) (fun cdv A outer s H vs Q E hr h => ?_)
  · obtain ⟨a, ns, rfl, _⟩ := h
    rfl
  · obtain ⟨a, ns, rfl, hS, _, htab, hQ⟩ := h
    have tg0 := htab _ List.mem_cons_self
    refine ⟨_, (pss_cons (ps_set (i := 1) sclaw.nd rfl (Or.inr rfl) (pe_call G__law_stream (hr.mono (by decide)) (by rfl) T.g__law_stream T.F__law_stream.kp T.b__law_stream .nil pass0 (pa_cons (pv 0) pa_nil)))
      (pss_cons (ps_set (i := 2) sclaw.nd rfl (Or.inr rfl) (pe_call G__law_signature (hr.mono (by decide)) (by rfl) T.g__law_signature T.F__law_signature.kp T.b__law_signature .nil pass0 (pa_cons (pv 1) pa_nil)))
      (pss_cons (ps_set (i := 3) sclaw.nd rfl (Or.inl rfl) (pe_call G__law_sentence (hr.mono (by decide)) (by rfl) T.g__law_sentence T.F__law_sentence.kp T.b__law_sentence .nil pass0 (pa_cons (pv 1) (pa_cons (pv 2) pa_nil))))
      (pss_cons (ps_set (i := 4) sclaw.nd rfl (Or.inl rfl) (pe_callTy call_tuple_of (by rfl) T.n_tuple (by decide +kernel) (pa_cons (pe_lc (own := [("turn", 10)]) (g := gName 10) (tt := tYes) rfl sclaw.nd (pi_range1 (by rfl) T.n_range (pa_cons (pe_call G__law_next (hr.mono (by decide)) (by rfl) T.g__law_next T.F__law_next.kp T.b__law_next .nil pass0 (pa_cons (pv 1) (pa_cons pe_int pa_nil))) pa_nil)) (blkOk_by (own := [("turn", 10)]) (N := Nlaw) (sc := defScope slaw) (by decide +kernel)) (fun _ _ _ _ _ => pg_name (i := 10) sclaw.nd rfl (Or.inl rfl)) (fun _ _ _ _ _ => pts_nil) (fun _ _ _ _ _ => (pe_call G__law_sentence (hr.mono (by decide)) (by rfl) T.g__law_sentence T.F__law_sentence.kp T.b__law_sentence .nil pass0 (pa_cons (pv 1) (pa_cons (pv 2) pa_nil))))) pa_nil)))
      (pss_cons (ps_if (pt_not (pt_val (pe_call G__law_equal (hr.mono (by decide)) (by rfl) T.g__law_equal T.F__law_equal.kp T.b__law_equal .nil pass0 (pa_cons (pe_lst (pa_cons (pe_call G_is_signature (hr.mono (by decide)) (by rfl) T.g_is_signature T.F_is_signature.kp T.b_is_signature .nil pass0 (pa_cons (pv 2) pa_nil)) (pa_cons (pe_call G_is_sentence (hr.mono (by decide)) (by rfl) T.g_is_sentence T.F_is_sentence.kp T.b_is_sentence .nil pass0 (pa_cons (pv 2) (pa_cons (pv 3) pa_nil))) (pa_cons (pe_call G_are_premises (hr.mono (by decide)) (by rfl) T.g_are_premises T.F_are_premises.kp T.b_are_premises .nil pass0 (pa_cons (pv 2) (pa_cons (pv 4) pa_nil))) (pa_cons (pe_call G_are_premises (hr.mono (by decide)) (by rfl) T.g_are_premises T.F_are_premises.kp T.b_are_premises .nil pass0 (pa_cons (pv 2) (pa_cons (pe_op op_repT (pe_tup (pa_cons (pv 3) pa_nil)) pe_int) pa_nil))) pa_nil))))) (pa_cons (pe_op op_rep (pe_lst (pa_cons pe_bl pa_nil)) pe_int) pa_nil))))) (pss_one (ps_ret pe_bl)) pss_nil)
      (pss_cons (ps_set (i := 5) sclaw.nd rfl (Or.inl rfl) (pe_call G__law_next (hr.mono (by decide)) (by rfl) T.g__law_next T.F__law_next.kp T.b__law_next .nil pass0 (pa_cons (pv 1) (pa_cons (pe_op op_add (pe_callB call_len_seq (by rfl) T.n_len (by decide +kernel) (pa_cons (pv 4) pa_nil)) pe_int) pa_nil))))
      (pss_cons (ps_set (i := 6) sclaw.nd rfl (Or.inl rfl) (pe_call G__law_bad (hr.mono (by decide)) (by rfl) T.g__law_bad T.F__law_bad.kp T.b__law_bad .nil pass0 (pa_cons (pv 1) (pa_cons (pv 2) (pa_cons (pv 3) pa_nil)))))
      (pss_cons (ps_set (i := 7) sclaw.nd rfl (Or.inl rfl) (pe_lst (pa_cons pe_non (pa_cons (pe_callTy call_list_of (by rfl) T.n_list (by decide +kernel) (pa_cons (pv 4) pa_nil)) (pa_cons (pe_op op_repT (pe_tup (pa_cons (pv 3) pa_nil)) pe_int) (pa_cons (pe_op op_catA (pe_op op_catA (pe_slice sl_tupA (pv 4) po_none (po_some (pv 5))) (pe_tup (pa_cons (pv 6) pa_nil))) (pe_slice sl_tupA (pv 4) (po_some (pv 5)) po_none)) (pa_cons (pv 3) (pa_cons pe_int pa_nil))))))))
      (pss_cons (ps_set (i := 8) sclaw.nd rfl (Or.inl rfl) (pe_lst (pa_cons pe_non (pa_cons (pe_callTy call_list_of (by rfl) T.n_list (by decide +kernel) (pa_cons (pv 2) pa_nil)) (pa_cons (pe_slice sl_tupA (pv 2) po_none (po_some pe_int)) (pa_cons (pe_op op_catA (pv 2) (pe_tup (pa_cons pe_int pa_nil))) (pa_cons (pe_tup (pa_cons pe_int (pa_cons pe_int pa_nil))) (pa_cons (pe_tup (pa_cons pe_int (pa_cons pe_int pa_nil))) (pa_cons (pe_tup (pa_cons pe_int (pa_cons pe_int pa_nil))) (pa_cons (pe_tup (pa_cons pe_int (pa_cons (pe_un un_neg pe_int) pa_nil))) (pa_cons (pe_tup (pa_cons pe_bl (pa_cons pe_int pa_nil))) (pa_cons (pe_tup (pa_cons pe_int (pa_cons pe_bl pa_nil))) (pa_cons (pe_tup (pa_cons pe_str (pa_cons pe_int pa_nil))) (pa_cons pe_int pa_nil))))))))))))))
      (pss_cons (ps_set (i := 9) sclaw.nd rfl (Or.inl rfl) (pe_lst (pa_cons (pe_call G_is_sentence (hr.mono (by decide)) (by rfl) T.g_is_sentence T.F_is_sentence.kp T.b_is_sentence .nil pass0 (pa_cons (pv 2) (pa_cons (pv 6) pa_nil))) (pa_cons (pe_call G_are_premises (hr.mono (by decide)) (by rfl) T.g_are_premises T.F_are_premises.kp T.b_are_premises .nil pass0 (pa_cons (pv 2) (pa_cons (pe_call G__law_pick (hr.mono (by decide)) (by rfl) T.g__law_pick T.F__law_pick.kp T.b__law_pick .nil pass0 (pa_cons (pv 1) (pa_cons (pv 7) pa_nil))) pa_nil))) (pa_cons (pe_call G_is_signature (hr.mono (by decide)) (by rfl) T.g_is_signature T.F_is_signature.kp T.b_is_signature .nil pass0 (pa_cons (pe_call G__law_pick (hr.mono (by decide)) (by rfl) T.g__law_pick T.F__law_pick.kp T.b__law_pick .nil pass0 (pa_cons (pv 1) (pa_cons (pv 8) pa_nil))) pa_nil)) (pa_cons (pe_call G_is_sentence (hr.mono (by decide)) (by rfl) T.g_is_sentence T.F_is_sentence.kp T.b_is_sentence .nil pass0 (pa_cons (pv 2) (pa_cons (pe_tup (pa_cons pe_str (pa_cons pe_int (pa_cons (pe_ix ix_tup (pv 2) pe_int (fun _ _ => rfl)) pa_nil)))) pa_nil))) (pa_cons (pe_call G_is_sentence (hr.mono (by decide)) (by rfl) T.g_is_sentence T.F_is_sentence.kp T.b_is_sentence .nil pass0 (pa_cons (pv 2) (pa_cons (pe_tup (pa_cons pe_str (pa_cons pe_str (pa_cons pe_int (pa_cons pe_bl (pa_cons (pe_ix ix_tup (pv 2) pe_int (fun _ _ => rfl)) pa_nil)))))) pa_nil))) pa_nil)))))))
      (pss_one (ps_ret (pe_call G__law_equal (hr.mono (by decide)) (by rfl) T.g__law_equal T.F__law_equal.kp T.b__law_equal .nil pass0 (pa_cons (pv 9) (pa_cons (pe_op op_rep (pe_lst (pa_cons pe_bl pa_nil)) pe_int) pa_nil))))))))))))))), ?_⟩
    refine ⟨_, rfl, a, ns, rfl, hS, fun H1 p l s1 st1 => ?_⟩
    refine ⟨_, rfl, p, l, rfl, st1, fun H2 sv n m e2 st2 hsig2 n0 n1 m0 m1 => ?_⟩
    refine ⟨_, rfl, _, rfl, p, l, sv, n, m, rfl, st2, hsig2, ⟨n0, n1, m0, m1⟩, fun H3 x ds e3 st3 hx3 sen => ?_⟩
    have hsig3 := e3.sig st2 hsig2
    refine ⟨_, rfl, p, l, 9, rfl, st3, by decide, by decide, fun H4 c e4 st4 c0 c1 => ⟨_, rfl, by omega, by omega, fun D nD => lc_range (lo := 0) (n := c.toNat) (fun i H' => Ext p H4 H' ∧ Strm l H' p ∧ ∃ acc dss, H' D = some (.lst acc) ∧ acc.length = i ∧ DpAll K H' acc dss ∧ Sens n m dss) ?_ (fun i H' hi hP => ?_) fun H5 hP => ?_⟩⟩
    · exact ⟨ext_fresh (Ext.refl p H4) nD, st4.upd (st4.ne nD).1 (st4.ne nD).2, [], [], upd_same, rfl, .nil, fun d hd => nomatch hd⟩
    · obtain ⟨e', st', acc, dss, hD, la, ha, hs⟩ := hP
      have sig' := e'.sig st4 (e4.sig st3 hsig3)
      refine ⟨rfl, _, rfl, _, rfl, p, l, sv, n, m, rfl, st', sig', ⟨n0, n1, m0, m1⟩, fun H5 y dy e5 st5 hy sy => ?_⟩
      have hD5 := e5.at (fun z => (st4.ne nD).1 z.symm) hD
      refine ⟨acc, hD5, by rw [la]; exact small1000 (by omega), ext_fresh (e'.trans e5) nD, st5.upd (st4.ne nD).1 (st4.ne nD).2, acc ++ [y], dss ++ [.tuple dy], upd_same, by rw [List.length_append, la]; rfl, ?_, ?_⟩
      · have eD : Ext D H5 (upd H5 D (.lst (acc ++ [y]))) := ext_upd (Ext.refl D H5) hD5
        exact DpAll.append (keepNs eD hD5 _ _ (noLs_of hs) (keepXs e5 st' _ _ hs.sfs ha)) (.cons (keepN eD hD5 _ _ sy.noL hy) .nil)
      · intro d hd
        rw [List.mem_append, List.mem_singleton] at hd
        rcases hd with hd | rfl
        · exact hs d hd
        · exact ⟨dy, rfl, sy⟩
    obtain ⟨e5, st5, acc, dss, hD, la, ha, hs⟩ := hP
    refine ⟨D, acc, rfl, .inl ⟨.of hD, fun t nt => ?_⟩⟩
    generalize hH6 : upd H5 t (.tup acc) = H6
    have s6 : Same H5 H6 := by rw [← hH6]; exact same_upd nt
    have ht6 : SqT K H6 t acc := by rw [← hH6]; exact .of upd_same
    have hps : Dp K H6 (.ref t) (.tuple dss) := .tup ht6 (keepDs s6 _ _ ha)
    have ldss : dss.length ≤ 8 := by
      rw [← DpAll.length ha, la]
      omega
    have e36 : Ext p H3 H6 := (e4.trans e5).trans s6.ext
    have st6 := st5.keep s6
    have tg6 : GxR.TabG H6 T.pp_are_premises := e36.2 _ (e3.2 _ (e2.2 _ (s1.2 _ tg0)))
    have sig6 := e36.sig st3 hsig3
    have dsg : Dp K H6 sv (.tuple [.int n, .int m]) := sig6.dp
    have dx : Dp K H6 x (.tuple ds) := keepX e36 st3 _ _ sen.safe hx3
    clear hx3 hsig3 hsig2
    have prem : isPrem n m (.tuple dss) = true := by
      show (decide (dss.length ≤ 8) && dss.all (isSent n m)) = true
      rw [decide_eq_true ldss, Bool.true_and, List.all_eq_true]
      intro d hd
      obtain ⟨q, rfl, hq⟩ := hs d hd
      exact hq.ok
    dsimp only [tSeq, tIfS, tNot, tB]
    refine call_at (da_cons (K := K) (de_lst (da_cons (de_isSig (da_cons (de_var rfl dsg) da_nil) (isSig_of n0 n1 m0 m1)) (da_cons (de_isSent (da_cons (de_var rfl dsg) (da_cons (de_var rfl dx) da_nil)) sen.shs sen.ok) (da_cons (de_prem (da_cons (de_var rfl dsg) (da_cons (de_var rfl hps) da_nil)) hs.shss prem tg6) (da_cons (de_prem (da_cons (de_var rfl dsg) (da_cons (de_repT (k := 8) rfl (de_tup (da_cons (de_var rfl dx) da_nil)) (fun z => nomatch z) (by decide) (by decide) (by show 1 ≤ 1000; decide)) da_nil)) (rep_shss sen) (eight sen) tg6) da_nil)))) (by show 4 ≤ 1000; decide)) (da_cons (de_rep (k := 4) rfl (da_cons de_bl da_nil) (by decide) (by show 1 ≤ 30; decide)) da_nil) H6 (Same.refl H6) _ fun vs H7 s7 hvs => ?_)
    obtain ⟨v1, u1, rfl, hv1, hu1⟩ := da2 hvs
    refine ⟨v1, u1, _, rfl, hv1, hu1, by rfl, fun H8 s8 => ⟨_, rfl, iteF ?_⟩⟩
    have s68 := s7.trans s8
    have st8 := st6.keep s68
    have ht8 := Same.sqT s68 ht6
    have lacc : acc.length = dss.length := DpAll.length ha
    refine ⟨_, rfl, _, rfl, t, acc, rfl, .inr ht8, _, _, rfl, rfl, p, l, _, rfl, st8, by omega, by omega, fun H9 cz e9 st9 cz0 cz1 => ?_⟩
    obtain ⟨ct, rfl⟩ := Int.eq_ofNat_of_zero_le cz0
    have hct : ct ≤ dss.length := by omega
    have dsg8 := keepD s68 _ _ dsg
    have dx8 := keepD s68 _ _ dx
    have hps8 := keepD s68 _ _ hps
    have sfp : safe (.tuple dss) = true := by
      unfold safe
      exact safe_all.mpr hs.sfs
    have sfg : safe (.tuple [.int n, .int m]) = true := by simp [safe]
    have dsg9 := keepX e9 st8 _ _ sfg dsg8
    have dx9 := keepX e9 st8 _ _ sen.safe dx8
    have hps9 := keepX e9 st8 _ _ sfp hps8
    refine ⟨_, rfl, _, rfl, _, rfl, p, l, sv, x, n, m, ds, rfl, st9, dp_sig dsg9, ⟨n0, n1, m0, m1⟩, dx9, sen, fun HA bv bd eA stA hb bad => ?_⟩
    have dsgA := keepX eA st9 _ _ sfg dsg9
    have dxA := keepX eA st9 _ _ sen.safe dx9
    have hpsA := keepX eA st9 _ _ sfp hps9
    have lts : (dss.take ct).length ≤ 8 := by
      rw [List.length_take]
      omega
    dsimp only [gName, tSeq, tAsg]
    refine de_lst (K := K) (da_cons de_non (da_cons (de_listof rfl hpsA) (da_cons (de_repT (k := 9) rfl (de_tup (da_cons (de_var rfl dxA) da_nil)) (fun z => nomatch z) (by decide) (by decide) (by show 1 ≤ 1000; decide)) (da_cons (de_catA (de_catA (de_to (k := ct) rfl (de_var rfl hpsA) hct (de_var rfl (.int _))) (de_tup (da_cons (de_var rfl hb) da_nil)) (by show (dss.take ct).length + 1 ≤ 1000; omega)) (de_from (k := ct) rfl (de_var rfl hpsA) hct (de_var rfl (.int _))) (by rw [List.length_append, List.length_drop]; show (dss.take ct).length + 1 + _ ≤ 1000; omega)) (da_cons (de_var rfl dxA) (da_cons de_int da_nil)))))) (by show 6 ≤ 1000; decide) HA (Same.refl HA) _ fun wv HB sB hw => ?_
    have dsgB := keepD sB _ _ dsgA
    refine de_lst (K := K) (da_cons de_non (da_cons (de_listof rfl dsgB) (da_cons (de_to (k := 1) rfl (de_var rfl dsgB) (by show 1 ≤ 2; decide) de_int) (da_cons (de_catA (de_var rfl dsgB) (de_tup (da_cons de_int da_nil)) (by show 3 ≤ 1000; decide)) (da_cons (de_tup (da_cons de_int (da_cons de_int da_nil))) (da_cons (de_tup (da_cons de_int (da_cons de_int da_nil))) (da_cons (de_tup (da_cons de_int (da_cons de_int da_nil))) (da_cons (de_tup (da_cons de_int (da_cons de_neg da_nil))) (da_cons (de_tup (da_cons de_bl (da_cons de_int da_nil))) (da_cons (de_tup (da_cons de_int (da_cons de_bl da_nil))) (da_cons (de_tup (da_cons de_str (da_cons de_int da_nil))) (da_cons de_int da_nil)))))))))))) (by show 12 ≤ 1000; decide) HB (Same.refl HB) _ fun ov HC sC ho => ?_
    have sBC := sB.trans sC
    have stC := stA.keep sBC
    have dsgC := keepD sBC _ _ dsgA
    have dxC := keepD sBC _ _ dxA
    have hbC := keepD sBC _ _ hb
    have hwC := keepD sC _ _ hw
    have bads : ∀ d ∈ ([.none, .list dss, .tuple (List.replicate 9 [PyData.tuple ds]).flatten, .tuple (dss.take ct ++ [bd] ++ dss.drop ct), .tuple ds, .int 0] : List PyData), BadP n m d := by
      intro d h
      simp only [List.mem_cons, List.not_mem_nil, or_false] at h
      rcases h with rfl | rfl | rfl | rfl | rfl | rfl
      · exact bp_flat rfl (by unfold safe; rfl)
      · exact bp_flat rfl hs.safeL
      · exact bp_nine sen
      · exact bp_ins hs bad
      · exact bp_sen sen
      · exact bp_flat rfl (by unfold safe; rfl)
    refine ⟨_, rfl, _, rfl, sv, bv, bd, n, m, rfl, dp_sig dsgC, hbC, bad.sh, ?_⟩
    rw [bad.no]
    have sfw : safe (.list ([.none, .list dss, .tuple (List.replicate 9 [PyData.tuple ds]).flatten, .tuple (dss.take ct ++ [bd] ++ dss.drop ct), .tuple ds, .int 0] : List PyData)) = true := by
      unfold safe
      rw [Bool.and_eq_true]
      exact ⟨rfl, safe_all.mpr fun d hd => (bads d hd).sf⟩
    refine ⟨_, rfl, _, rfl, _, rfl, p, l, wv, _, rfl, stC, hwC, sfw, by show 0 < 6; decide, by show 6 ≤ 1000; decide, fun HD wy wd eD stD memD hwy => ?_⟩
    have tgD : GxR.TabG HD T.pp_are_premises := eD.2 _ (sBC.2 _ (eA.2 _ (e9.2 _ (s68.2 _ tg6))))
    have dsgD := keepX eD stC _ _ sfg dsgC
    have hoD := keepX eD stC (.list (Odd n m)) ov (by
      unfold safe
      rw [Bool.and_eq_true]
      exact ⟨rfl, safe_all.mpr fun d hd => (odd_bad d hd).sf⟩) ho
    refine ⟨sv, wy, wd, n, m, rfl, dp_sig dsgD, hwy, (bads wd memD).sh, tgD, fun HE sE => ?_⟩
    rw [(bads wd memD).no]
    have stE := stD.keep sE
    have dsgE := keepD sE _ _ dsgD
    refine ⟨_, rfl, _, rfl, p, l, ov, _, rfl, stE, keepD sE _ _ hoD, (by
      unfold safe
      rw [Bool.and_eq_true]
      exact ⟨rfl, safe_all.mpr fun d hd => (odd_bad d hd).sf⟩), by show 0 < 12; decide, by show 12 ≤ 1000; decide, fun HF oy od eF stF memF hoy => ⟨oy, od, rfl, hoy, ?_⟩⟩
    rw [(odd_bad od memF).no]
    have dsgF := keepX eF stE _ _ sfg dsgE
    refine de_isSent (K := K) (da_cons (de_var rfl dsgF) (da_cons (de_tup (da_cons de_str (da_cons de_int (da_cons (de_ixT (j := 0) rfl (de_var rfl dsgF) rfl) da_nil)))) da_nil)) sh4 sent4 HF (Same.refl HF) _ fun v4 HG sG h4 => ?_
    have dsgG := keepD sG _ _ dsgF
    refine de_isSent (K := K) (da_cons (de_var rfl dsgG) (da_cons (de_tup (da_cons de_str (da_cons de_str (da_cons de_int (da_cons de_bl (da_cons (de_ixT (j := 1) rfl (de_var rfl dsgG) rfl) da_nil)))))) da_nil)) sh5 sent5 HG (Same.refl HG) _ fun v5 HI sI h5 => ?_
    cases h4
    cases h5
    refine ⟨by show 5 ≤ sizeLine; decide, fun r nr => ?_⟩
    generalize hHJ : upd HI r (.lst [.bl false, .bl false, .bl false, .bl false, .bl false]) = HJ
    have hr2 : HJ r = some (.lst [.bl false, .bl false, .bl false, .bl false, .bl false]) := by rw [← hHJ, upd_same]
    dsimp only [gName, tSeq, tRet]
    refine call_at (da_cons (K := K) (de_var (d := .list [.bool false, .bool false, .bool false, .bool false, .bool false]) rfl (.lst (.of hr2) (.cons (.bl _) (.cons (.bl _) (.cons (.bl _) (.cons (.bl _) (.cons (.bl _) .nil))))))) (da_cons (de_rep (k := 5) rfl (da_cons de_bl da_nil) (by decide) (by show 1 ≤ 30; decide)) da_nil) HJ (Same.refl HJ) _ fun vs9 HL sL hv9 => ?_)
    obtain ⟨va, vb, rfl, hva, hvb⟩ := da2 hv9
    exact ⟨va, vb, _, rfl, hva, hvb, by rfl, fun HM _ => hQ HM⟩
end

theorem all_mk {l : PySem.W.OpenLaw} {q : Program} {w : World} {K : PySem.W.Frag} {h : Heap} {mg : Str → Option Value} {fa : Addr} (X : K.In h) (G : h.Ns mainGlobals mg) (hfa : mg "law" = some (.ref fa)) (DT : GXX.DefTabs q mg h)
    {f1 : Addr} {od1 an1 : Option Addr} {sl1 : Array (Option Value)} {oc1 kV1 dc1 pm1 cd1 ct1 : Value}
    (a1 : PySem.W.nsIn K mainGlobals "is_integer" = some (some (.ref f1))) (l1 : K.lookup f1 = some ⟨oc1, od1, .func (PySem.W.fnOf "is_integer" "is_integer" (defArgs sis_integer) (defBody sis_integer) (defScope sis_integer) .none kV1 dc1 pm1 an1 cd1 ct1), sl1⟩) (c1 : PySem.W.codeIn K cd1 "is_integer" = true) (k1 : PySem.W.keepIn K (.ref f1) = true)
    {f2 : Addr} {od2 an2 : Option Addr} {sl2 : Array (Option Value)} {oc2 kV2 dc2 pm2 cd2 ct2 : Value}
    (a2 : PySem.W.nsIn K mainGlobals "is_noun" = some (some (.ref f2))) (l2 : K.lookup f2 = some ⟨oc2, od2, .func (PySem.W.fnOf "is_noun" "is_noun" (defArgs sis_noun) (defBody sis_noun) (defScope sis_noun) .none kV2 dc2 pm2 an2 cd2 ct2), sl2⟩) (c2 : PySem.W.codeIn K cd2 "is_noun" = true) (k2 : PySem.W.keepIn K (.ref f2) = true)
    {f3 : Addr} {od3 an3 : Option Addr} {sl3 : Array (Option Value)} {oc3 kV3 dc3 pm3 cd3 ct3 : Value}
    (a3 : PySem.W.nsIn K mainGlobals "is_verb" = some (some (.ref f3))) (l3 : K.lookup f3 = some ⟨oc3, od3, .func (PySem.W.fnOf "is_verb" "is_verb" (defArgs sis_verb) (defBody sis_verb) (defScope sis_verb) .none kV3 dc3 pm3 an3 cd3 ct3), sl3⟩) (c3 : PySem.W.codeIn K cd3 "is_verb" = true) (k3 : PySem.W.keepIn K (.ref f3) = true)
    {f4 : Addr} {od4 an4 : Option Addr} {sl4 : Array (Option Value)} {oc4 kV4 dc4 pm4 cd4 ct4 : Value}
    (a4 : PySem.W.nsIn K mainGlobals "is_signature" = some (some (.ref f4))) (l4 : K.lookup f4 = some ⟨oc4, od4, .func (PySem.W.fnOf "is_signature" "is_signature" (defArgs sis_signature) (defBody sis_signature) (defScope sis_signature) .none kV4 dc4 pm4 an4 cd4 ct4), sl4⟩) (c4 : PySem.W.codeIn K cd4 "is_signature" = true) (k4 : PySem.W.keepIn K (.ref f4) = true)
    {f5 : Addr} {od5 an5 : Option Addr} {sl5 : Array (Option Value)} {oc5 kV5 dc5 pm5 cd5 ct5 : Value}
    (a5 : PySem.W.nsIn K mainGlobals "is_sentence" = some (some (.ref f5))) (l5 : K.lookup f5 = some ⟨oc5, od5, .func (PySem.W.fnOf "is_sentence" "is_sentence" (defArgs sis_sentence) (defBody sis_sentence) (defScope sis_sentence) .none kV5 dc5 pm5 an5 cd5 ct5), sl5⟩) (c5 : PySem.W.codeIn K cd5 "is_sentence" = true) (k5 : PySem.W.keepIn K (.ref f5) = true)
    {f6 : Addr} {od6 an6 : Option Addr} {sl6 : Array (Option Value)} {oc6 kV6 dc6 pm6 cd6 ct6 : Value}
    (a6 : PySem.W.nsIn K mainGlobals "_is_verb_sentence" = some (some (.ref f6))) (l6 : K.lookup f6 = some ⟨oc6, od6, .func (PySem.W.fnOf "_is_verb_sentence" "_is_verb_sentence" (defArgs s_is_verb_sentence) (defBody s_is_verb_sentence) (defScope s_is_verb_sentence) .none kV6 dc6 pm6 an6 cd6 ct6), sl6⟩) (c6 : PySem.W.codeIn K cd6 "_is_verb_sentence" = true) (k6 : PySem.W.keepIn K (.ref f6) = true)
    {f7 : Addr} {od7 an7 : Option Addr} {sl7 : Array (Option Value)} {oc7 kV7 dc7 pm7 cd7 ct7 : Value}
    (a7 : PySem.W.nsIn K mainGlobals "_is_self_sentence" = some (some (.ref f7))) (l7 : K.lookup f7 = some ⟨oc7, od7, .func (PySem.W.fnOf "_is_self_sentence" "_is_self_sentence" (defArgs s_is_self_sentence) (defBody s_is_self_sentence) (defScope s_is_self_sentence) .none kV7 dc7 pm7 an7 cd7 ct7), sl7⟩) (c7 : PySem.W.codeIn K cd7 "_is_self_sentence" = true) (k7 : PySem.W.keepIn K (.ref f7) = true)
    {f8 : Addr} {od8 an8 : Option Addr} {sl8 : Array (Option Value)} {oc8 kV8 dc8 pm8 cd8 ct8 : Value}
    (a8 : PySem.W.nsIn K mainGlobals "are_premises" = some (some (.ref f8))) (l8 : K.lookup f8 = some ⟨oc8, od8, .func (PySem.W.fnOf "are_premises" "are_premises" (defArgs sare_premises) (defBody sare_premises) (defScope sare_premises) .none kV8 dc8 pm8 an8 cd8 ct8), sl8⟩) (c8 : PySem.W.codeIn K cd8 "are_premises" = true) (k8 : PySem.W.keepIn K (.ref f8) = true)
    {f9 : Addr} {od9 an9 : Option Addr} {sl9 : Array (Option Value)} {oc9 kV9 dc9 pm9 cd9 ct9 : Value}
    (a9 : PySem.W.nsIn K mainGlobals "_law_stream" = some (some (.ref f9))) (l9 : K.lookup f9 = some ⟨oc9, od9, .func (PySem.W.fnOf "_law_stream" "_law_stream" (defArgs s_law_stream) (defBody s_law_stream) (defScope s_law_stream) .none kV9 dc9 pm9 an9 cd9 ct9), sl9⟩) (c9 : PySem.W.codeIn K cd9 "_law_stream" = true) (k9 : PySem.W.keepIn K (.ref f9) = true)
    {f10 : Addr} {od10 an10 : Option Addr} {sl10 : Array (Option Value)} {oc10 kV10 dc10 pm10 cd10 ct10 : Value}
    (a10 : PySem.W.nsIn K mainGlobals "_law_next" = some (some (.ref f10))) (l10 : K.lookup f10 = some ⟨oc10, od10, .func (PySem.W.fnOf "_law_next" "_law_next" (defArgs s_law_next) (defBody s_law_next) (defScope s_law_next) .none kV10 dc10 pm10 an10 cd10 ct10), sl10⟩) (c10 : PySem.W.codeIn K cd10 "_law_next" = true) (k10 : PySem.W.keepIn K (.ref f10) = true)
    {f11 : Addr} {od11 an11 : Option Addr} {sl11 : Array (Option Value)} {oc11 kV11 dc11 pm11 cd11 ct11 : Value}
    (a11 : PySem.W.nsIn K mainGlobals "_law_is_integer" = some (some (.ref f11))) (l11 : K.lookup f11 = some ⟨oc11, od11, .func (PySem.W.fnOf "_law_is_integer" "_law_is_integer" (defArgs s_law_is_integer) (defBody s_law_is_integer) (defScope s_law_is_integer) .none kV11 dc11 pm11 an11 cd11 ct11), sl11⟩) (c11 : PySem.W.codeIn K cd11 "_law_is_integer" = true) (k11 : PySem.W.keepIn K (.ref f11) = true)
    {f12 : Addr} {od12 an12 : Option Addr} {sl12 : Array (Option Value)} {oc12 kV12 dc12 pm12 cd12 ct12 : Value}
    (a12 : PySem.W.nsIn K mainGlobals "_law_equal" = some (some (.ref f12))) (l12 : K.lookup f12 = some ⟨oc12, od12, .func (PySem.W.fnOf "_law_equal" "_law_equal" (defArgs s_law_equal) (defBody s_law_equal) (defScope s_law_equal) .none kV12 dc12 pm12 an12 cd12 ct12), sl12⟩) (c12 : PySem.W.codeIn K cd12 "_law_equal" = true) (k12 : PySem.W.keepIn K (.ref f12) = true)
    {f13 : Addr} {od13 an13 : Option Addr} {sl13 : Array (Option Value)} {oc13 kV13 dc13 pm13 cd13 ct13 : Value}
    (a13 : PySem.W.nsIn K mainGlobals "_law_pick" = some (some (.ref f13))) (l13 : K.lookup f13 = some ⟨oc13, od13, .func (PySem.W.fnOf "_law_pick" "_law_pick" (defArgs s_law_pick) (defBody s_law_pick) (defScope s_law_pick) .none kV13 dc13 pm13 an13 cd13 ct13), sl13⟩) (c13 : PySem.W.codeIn K cd13 "_law_pick" = true) (k13 : PySem.W.keepIn K (.ref f13) = true)
    {f14 : Addr} {od14 an14 : Option Addr} {sl14 : Array (Option Value)} {oc14 kV14 dc14 pm14 cd14 ct14 : Value}
    (a14 : PySem.W.nsIn K mainGlobals "_law_signature" = some (some (.ref f14))) (l14 : K.lookup f14 = some ⟨oc14, od14, .func (PySem.W.fnOf "_law_signature" "_law_signature" (defArgs s_law_signature) (defBody s_law_signature) (defScope s_law_signature) .none kV14 dc14 pm14 an14 cd14 ct14), sl14⟩) (c14 : PySem.W.codeIn K cd14 "_law_signature" = true) (k14 : PySem.W.keepIn K (.ref f14) = true)
    {f15 : Addr} {od15 an15 : Option Addr} {sl15 : Array (Option Value)} {oc15 kV15 dc15 pm15 cd15 ct15 : Value}
    (a15 : PySem.W.nsIn K mainGlobals "_law_sentence" = some (some (.ref f15))) (l15 : K.lookup f15 = some ⟨oc15, od15, .func (PySem.W.fnOf "_law_sentence" "_law_sentence" (defArgs s_law_sentence) (defBody s_law_sentence) (defScope s_law_sentence) .none kV15 dc15 pm15 an15 cd15 ct15), sl15⟩) (c15 : PySem.W.codeIn K cd15 "_law_sentence" = true) (k15 : PySem.W.keepIn K (.ref f15) = true)
    {f16 : Addr} {od16 an16 : Option Addr} {sl16 : Array (Option Value)} {oc16 kV16 dc16 pm16 cd16 ct16 : Value}
    (a16 : PySem.W.nsIn K mainGlobals "_law_bad" = some (some (.ref f16))) (l16 : K.lookup f16 = some ⟨oc16, od16, .func (PySem.W.fnOf "_law_bad" "_law_bad" (defArgs s_law_bad) (defBody s_law_bad) (defScope s_law_bad) .none kV16 dc16 pm16 an16 cd16 ct16), sl16⟩) (c16 : PySem.W.codeIn K cd16 "_law_bad" = true) (k16 : PySem.W.keepIn K (.ref f16) = true)
    {f17 : Addr} {od17 an17 : Option Addr} {sl17 : Array (Option Value)} {oc17 kV17 dc17 pm17 cd17 ct17 : Value}
    (a17 : PySem.W.nsIn K mainGlobals "law" = some (some (.ref f17))) (l17 : K.lookup f17 = some ⟨oc17, od17, .func (PySem.W.fnOf "law" "law" (defArgs slaw) (defBody slaw) (defScope slaw) .none kV17 dc17 pm17 an17 cd17 ct17), sl17⟩) (c17 : PySem.W.codeIn K cd17 "law" = true) (k17 : PySem.W.keepIn K (.ref f17) = true)
    (z_abs : PySem.W.nsIn K mainGlobals "abs" = some none)
    (z_all : PySem.W.nsIn K mainGlobals "all" = some none)
    (z_bool : PySem.W.nsIn K mainGlobals "bool" = some none)
    (z_int : PySem.W.nsIn K mainGlobals "int" = some none)
    (z_isinstance : PySem.W.nsIn K mainGlobals "isinstance" = some none)
    (z_len : PySem.W.nsIn K mainGlobals "len" = some none)
    (z_list : PySem.W.nsIn K mainGlobals "list" = some none)
    (z_range : PySem.W.nsIn K mainGlobals "range" = some none)
    (z_str : PySem.W.nsIn K mainGlobals "str" = some none)
    (z_tuple : PySem.W.nsIn K mainGlobals "tuple" = some none)
    {k_MOST_NOUNS : Tok} (m_MOST_NOUNS : PySem.W.nsIn K mainGlobals "MOST_NOUNS" = some (some (.int 4 k_MOST_NOUNS)))
    {k_MOST_VERBS : Tok} (m_MOST_VERBS : PySem.W.nsIn K mainGlobals "MOST_VERBS" = some (some (.int 2 k_MOST_VERBS)))
    {k_MOST_PREMISES : Tok} (m_MOST_PREMISES : PySem.W.nsIn K mainGlobals "MOST_PREMISES" = some (some (.int 8 k_MOST_PREMISES)))
    {a_QUANTIFIERS : Addr} {dt_QUANTIFIERS : Option Addr} {nt_QUANTIFIERS : Nat} {st_QUANTIFIERS : Array (Option Value)} {q0_QUANTIFIERS q1_QUANTIFIERS : Tok} (m_QUANTIFIERS : PySem.W.nsIn K mainGlobals "QUANTIFIERS" = some (some (.ref a_QUANTIFIERS))) (o_QUANTIFIERS : K.lookup a_QUANTIFIERS = some ⟨.type "tuple", dt_QUANTIFIERS, .seq #[.str "all" q0_QUANTIFIERS, .str "some" q1_QUANTIFIERS] nt_QUANTIFIERS, st_QUANTIFIERS⟩)
    {a_NOUN_WORDS : Addr} {dt_NOUN_WORDS : Option Addr} {nt_NOUN_WORDS : Nat} {st_NOUN_WORDS : Array (Option Value)} {q0_NOUN_WORDS q1_NOUN_WORDS q2_NOUN_WORDS q3_NOUN_WORDS q4_NOUN_WORDS q5_NOUN_WORDS : Tok} (m_NOUN_WORDS : PySem.W.nsIn K mainGlobals "NOUN_WORDS" = some (some (.ref a_NOUN_WORDS))) (o_NOUN_WORDS : K.lookup a_NOUN_WORDS = some ⟨.type "tuple", dt_NOUN_WORDS, .seq #[.str "all" q0_NOUN_WORDS, .str "some not" q1_NOUN_WORDS, .str "no" q2_NOUN_WORDS, .str "some" q3_NOUN_WORDS, .str "as many" q4_NOUN_WORDS, .str "fewer" q5_NOUN_WORDS] nt_NOUN_WORDS, st_NOUN_WORDS⟩)
    (nt : GXX.noTab K = true)
    (r_are_premises : ((PyProof.Rows.recsOf q).any fun e => e.name == "are_premises") = true)
    : LamX.LawAtS l w K CX0 7 63 "script" mg fa h := by
  have e := hfa.symm.trans (PySem.W.mg_of X G a17)
  cases e
  have F1 := fun_mk (st := sis_integer) l1 c1 k1
  have F2 := fun_mk (st := sis_noun) l2 c2 k2
  have F3 := fun_mk (st := sis_verb) l3 c3 k3
  have F4 := fun_mk (st := sis_signature) l4 c4 k4
  have F5 := fun_mk (st := sis_sentence) l5 c5 k5
  have F6 := fun_mk (st := s_is_verb_sentence) l6 c6 k6
  have F7 := fun_mk (st := s_is_self_sentence) l7 c7 k7
  have F8 := fun_mk (st := sare_premises) l8 c8 k8
  have F9 := fun_mk (st := s_law_stream) l9 c9 k9
  have F10 := fun_mk (st := s_law_next) l10 c10 k10
  have F11 := fun_mk (st := s_law_is_integer) l11 c11 k11
  have F12 := fun_mk (st := s_law_equal) l12 c12 k12
  have F13 := fun_mk (st := s_law_pick) l13 c13 k13
  have F14 := fun_mk (st := s_law_signature) l14 c14 k14
  have F15 := fun_mk (st := s_law_sentence) l15 c15 k15
  have F16 := fun_mk (st := s_law_bad) l16 c16 k16
  have F17 := fun_mk (st := slaw) l17 c17 k17
  have b1 := F1.binds (ps := ["value", "least", "most"]) fun _ _ _ _ _ _ us hl => match us, hl with | [_, _, _], _ => rfl
  have b2 := F2.binds (ps := ["signature", "value"]) fun _ _ _ _ _ _ us hl => match us, hl with | [_, _], _ => rfl
  have b3 := F3.binds (ps := ["signature", "value"]) fun _ _ _ _ _ _ us hl => match us, hl with | [_, _], _ => rfl
  have b4 := F4.binds (ps := ["value"]) fun _ _ _ _ _ _ us hl => match us, hl with | [_], _ => rfl
  have b5 := F5.binds (ps := ["signature", "value"]) fun _ _ _ _ _ _ us hl => match us, hl with | [_, _], _ => rfl
  have b6 := F6.binds (ps := ["signature", "value"]) fun _ _ _ _ _ _ us hl => match us, hl with | [_, _], _ => rfl
  have b7 := F7.binds (ps := ["signature", "value"]) fun _ _ _ _ _ _ us hl => match us, hl with | [_, _], _ => rfl
  have b8 := F8.binds (ps := ["signature", "value"]) fun _ _ _ _ _ _ us hl => match us, hl with | [_, _], _ => rfl
  have b9 := F9.binds (ps := ["script"]) fun _ _ _ _ _ _ us hl => match us, hl with | [_], _ => rfl
  have b10 := F10.binds (ps := ["stream", "many"]) fun _ _ _ _ _ _ us hl => match us, hl with | [_, _], _ => rfl
  have b11 := F11.binds (ps := ["actual"]) fun _ _ _ _ _ _ us hl => match us, hl with | [_], _ => rfl
  have b12 := F12.binds (ps := ["actual", "due"]) fun _ _ _ _ _ _ us hl => match us, hl with | [_, _], _ => rfl
  have b13 := F13.binds (ps := ["stream", "rows"]) fun _ _ _ _ _ _ us hl => match us, hl with | [_, _], _ => rfl
  have b14 := F14.binds (ps := ["stream"]) fun _ _ _ _ _ _ us hl => match us, hl with | [_], _ => rfl
  have b15 := F15.binds (ps := ["stream", "signature"]) fun _ _ _ _ _ _ us hl => match us, hl with | [_, _], _ => rfl
  have b16 := F16.binds (ps := ["stream", "signature", "sentence"]) fun _ _ _ _ _ _ us hl => match us, hl with | [_, _, _], _ => rfl
  obtain ⟨cc_are_premises, pp_are_premises, ec_are_premises, et_are_premises, en_are_premises, ed_are_premises⟩ := GXX.tab_one DT X nt r_are_premises (PySem.W.mg_of X G a8) l8 rfl
  have ec_are_premises : cd8 = .ref cc_are_premises := ec_are_premises
  subst ec_are_premises
  have FC_are_premises : GXX.FunC K "are_premises" "are_premises" sare_premises f8 _ cc_are_premises := ⟨_, _, _, _, _, _, _, _, rfl, l8, c8⟩
  let T : Txt K mg := ⟨f1, _, F1, PySem.W.mg_of X G a1, b1, f2, _, F2, PySem.W.mg_of X G a2, b2, f3, _, F3, PySem.W.mg_of X G a3, b3, f4, _, F4, PySem.W.mg_of X G a4, b4, f5, _, F5, PySem.W.mg_of X G a5, b5, f6, _, F6, PySem.W.mg_of X G a6, b6, f7, _, F7, PySem.W.mg_of X G a7, b7, f8, _, F8, PySem.W.mg_of X G a8, b8, f9, _, F9, PySem.W.mg_of X G a9, b9, f10, _, F10, PySem.W.mg_of X G a10, b10, f11, _, F11, PySem.W.mg_of X G a11, b11, f12, _, F12, PySem.W.mg_of X G a12, b12, f13, _, F13, PySem.W.mg_of X G a13, b13, f14, _, F14, PySem.W.mg_of X G a14, b14, f15, _, F15, PySem.W.mg_of X G a15, b15, f16, _, F16, PySem.W.mg_of X G a16, b16, cc_are_premises, pp_are_premises, FC_are_premises, PySem.W.mg_none_of X G z_abs, PySem.W.mg_none_of X G z_all, PySem.W.mg_none_of X G z_bool, PySem.W.mg_none_of X G z_int, PySem.W.mg_none_of X G z_isinstance, PySem.W.mg_none_of X G z_len, PySem.W.mg_none_of X G z_list, PySem.W.mg_none_of X G z_range, PySem.W.mg_none_of X G z_str, PySem.W.mg_none_of X G z_tuple, k_MOST_NOUNS, PySem.W.mg_of X G m_MOST_NOUNS, k_MOST_VERBS, PySem.W.mg_of X G m_MOST_VERBS, k_MOST_PREMISES, PySem.W.mg_of X G m_MOST_PREMISES, a_QUANTIFIERS, PySem.W.mg_of X G m_QUANTIFIERS, fun _ => .inr ⟨_, _, _, o_QUANTIFIERS, rfl, rfl, by show 2 ≤ sizeLine; decide, .cons ⟨_, rfl⟩ (.cons ⟨_, rfl⟩ (.nil))⟩, a_NOUN_WORDS, PySem.W.mg_of X G m_NOUN_WORDS, fun _ => .inr ⟨_, _, _, o_NOUN_WORDS, rfl, rfl, by show 6 ≤ sizeLine; decide, .cons ⟨_, rfl⟩ (.cons ⟨_, rfl⟩ (.cons ⟨_, rfl⟩ (.cons ⟨_, rfl⟩ (.cons ⟨_, rfl⟩ (.cons ⟨_, rfl⟩ (.nil))))))⟩⟩
  refine ⟨PySem.W.fnOf "law" "law" (defArgs slaw) (defBody slaw) (defScope slaw) .none kV17 dc17 pm17 an17 cd17 ct17, [(cc_are_premises, pp_are_premises)], splaw K [pp_are_premises], (List.forall_mem_cons.mpr ⟨et_are_premises, (fun _ z => nomatch z)⟩), (List.forall_mem_cons.mpr ⟨en_are_premises, (fun _ z => nomatch z)⟩), (List.forall_mem_cons.mpr ⟨ed_are_premises, (fun _ z => nomatch z)⟩), fun s v => .of_eq rfl, fun H a ns hl _ ht hS => ⟨a, ns, rfl, hS, hl, by
    intro b hb
    simp only [List.mem_cons, List.not_mem_nil, or_false] at hb
    rcases hb with hb
    · rw [hb]; exact ⟨#[], ht (cc_are_premises, pp_are_premises) (List.mem_cons_self), trivial⟩
  , fun _ => rfl⟩, fun base _ _ TB => ok_law F17 T (let t := TB _ (List.mem_cons_self); ⟨t.code, t.bm, t.gP⟩)⟩
end V
open PySem PySem.W PyProof.Rows in
set_option maxRecDepth 100000 in
set_option maxHeartbeats 0 in
theorem PySem.Challenge.cw_allsomeno_k01_forms_of_sentences_holds : PySem.Challenge.rw_allsomeno_k01_forms_of_sentences.Holds := by
  w_on; o_law; k_head; (case hw => w_witness2)
  k_fill
  refine GXX.walk_tabs (l := PySem.Challenge.rw_allsomeno_k01_forms_of_sentences) (n := 63) (k := 7) (x := "script") (CX := fun _ => L2.CX0) rfl (by decide) rfl ⟨rfl, by decide, by decide⟩ (fun w h Y => PySem.W.kIn_of Y) ?F (fun _ _ _ _ _ h => h)
  case F =>
    intro w mg fa h Y KX G hmg DT
    refine' V.all_mk KX G hmg DT ?a1 ?l1 ?c1 ?k1 ?a2 ?l2 ?c2 ?k2 ?a3 ?l3 ?c3 ?k3 ?a4 ?l4 ?c4 ?k4 ?a5 ?l5 ?c5 ?k5 ?a6 ?l6 ?c6 ?k6 ?a7 ?l7 ?c7 ?k7 ?a8 ?l8 ?c8 ?k8 ?a9 ?l9 ?c9 ?k9 ?a10 ?l10 ?c10 ?k10 ?a11 ?l11 ?c11 ?k11 ?a12 ?l12 ?c12 ?k12 ?a13 ?l13 ?c13 ?k13 ?a14 ?l14 ?c14 ?k14 ?a15 ?l15 ?c15 ?k15 ?a16 ?l16 ?c16 ?k16 ?a17 ?l17 ?c17 ?k17 ?z_abs ?z_all ?z_bool ?z_int ?z_isinstance ?z_len ?z_list ?z_range ?z_str ?z_tuple ?m_MOST_NOUNS ?m_MOST_VERBS ?m_MOST_PREMISES ?m_QUANTIFIERS ?o_QUANTIFIERS ?m_NOUN_WORDS ?o_NOUN_WORDS ?nt ?r_are_premises
    (case a1 => k_is); (case l1 => k_is); (case c1 => k_is); (case k1 => k_is); (case a2 => k_is); (case l2 => k_is); (case c2 => k_is); (case k2 => k_is); (case a3 => k_is); (case l3 => k_is); (case c3 => k_is); (case k3 => k_is); (case a4 => k_is); (case l4 => k_is); (case c4 => k_is); (case k4 => k_is); (case a5 => k_is); (case l5 => k_is); (case c5 => k_is); (case k5 => k_is); (case a6 => k_is); (case l6 => k_is); (case c6 => k_is); (case k6 => k_is); (case a7 => k_is); (case l7 => k_is); (case c7 => k_is); (case k7 => k_is); (case a8 => k_is); (case l8 => k_is); (case c8 => k_is); (case k8 => k_is); (case a9 => k_is); (case l9 => k_is); (case c9 => k_is); (case k9 => k_is); (case a10 => k_is); (case l10 => k_is); (case c10 => k_is); (case k10 => k_is); (case a11 => k_is); (case l11 => k_is); (case c11 => k_is); (case k11 => k_is); (case a12 => k_is); (case l12 => k_is); (case c12 => k_is); (case k12 => k_is); (case a13 => k_is); (case l13 => k_is); (case c13 => k_is); (case k13 => k_is); (case a14 => k_is); (case l14 => k_is); (case c14 => k_is); (case k14 => k_is); (case a15 => k_is); (case l15 => k_is); (case c15 => k_is); (case k15 => k_is); (case a16 => k_is); (case l16 => k_is); (case c16 => k_is); (case k16 => k_is); (case a17 => k_is); (case l17 => k_is); (case c17 => k_is); (case k17 => k_is); (case z_abs => k_is); (case z_all => k_is); (case z_bool => k_is); (case z_int => k_is); (case z_isinstance => k_is); (case z_len => k_is); (case z_list => k_is); (case z_range => k_is); (case z_str => k_is); (case z_tuple => k_is); (case m_MOST_NOUNS => k_is); (case m_MOST_VERBS => k_is); (case m_MOST_PREMISES => k_is); (case m_QUANTIFIERS => k_is); (case o_QUANTIFIERS => k_is); (case m_NOUN_WORDS => k_is); (case o_NOUN_WORDS => k_is); (case nt => kernel_rfl!); (case r_are_premises => decide +kernel)
