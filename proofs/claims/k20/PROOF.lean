import PyProof.Rows.All
import Wide.All
import OpenK.AllK
import Wide.FinOn
import HandS.ForMost
import HandS.IsInst
import HandS.Codes
import HandS.TupAny
import HandS.Deep
import PySem.Challenge.RW_allsomeno_k20_forms_of_kinds
set_option Elab.async false
set_option linter.all false
set_option maxRecDepth 100000
set_option maxHeartbeats 4000000
namespace V20
open PySem L2
open C8 (pss_cut)
/-! ### the text by places -/
def top (i : Nat) : Stmt := PySem.Challenge.pw_allsomeno_k20_forms_of_kinds.main.body.getD i (.Pass ⟨0, 0, 0, 0⟩)
abbrev sis_integer : Stmt := top 6
abbrev Nis_integer : List Str := ["value", "least", "most"]
theorem scis_integer : FnScope Nis_integer ["value", "least", "most"] (defScope sis_integer) := ⟨rfl, rfl, rfl, by decide +kernel, rfl, by decide +kernel, by decide +kernel⟩
abbrev sis_noun : Stmt := top 7
abbrev Nis_noun : List Str := ["signature", "value"]
theorem scis_noun : FnScope Nis_noun ["signature", "value"] (defScope sis_noun) := ⟨rfl, rfl, rfl, by decide +kernel, rfl, by decide +kernel, by decide +kernel⟩
abbrev sis_verb : Stmt := top 8
abbrev Nis_verb : List Str := ["signature", "value"]
theorem scis_verb : FnScope Nis_verb ["signature", "value"] (defScope sis_verb) := ⟨rfl, rfl, rfl, by decide +kernel, rfl, by decide +kernel, by decide +kernel⟩
abbrev sis_signature : Stmt := top 9
abbrev Nis_signature : List Str := ["value"]
theorem scis_signature : FnScope Nis_signature ["value"] (defScope sis_signature) := ⟨rfl, rfl, rfl, by decide +kernel, rfl, by decide +kernel, by decide +kernel⟩
abbrev scheck_signature : Stmt := top 10
abbrev Ncheck_signature : List Str := ["signature"]
theorem sccheck_signature : FnScope Ncheck_signature ["signature"] (defScope scheck_signature) := ⟨rfl, rfl, rfl, by decide +kernel, rfl, by decide +kernel, by decide +kernel⟩
abbrev s_is_kind : Stmt := top 12
abbrev N_is_kind : List Str := ["signature", "value", "word", "rest"]
theorem sc_is_kind : FnScope N_is_kind ["signature", "value"] (defScope s_is_kind) := ⟨rfl, rfl, rfl, by decide +kernel, rfl, by decide +kernel, by decide +kernel⟩
abbrev s_is_mark_rest : Stmt := top 13
abbrev N_is_mark_rest : List Str := ["signature", "rest", "does", "v", "by", "y"]
theorem sc_is_mark_rest : FnScope N_is_mark_rest ["signature", "rest"] (defScope s_is_mark_rest) := ⟨rfl, rfl, rfl, by decide +kernel, rfl, by decide +kernel, by decide +kernel⟩
abbrev sis_kind : Stmt := top 14
abbrev Nis_kind : List Str := ["signature", "value"]
theorem scis_kind : FnScope Nis_kind ["signature", "value"] (defScope sis_kind) := ⟨rfl, rfl, rfl, by decide +kernel, rfl, by decide +kernel, by decide +kernel⟩
abbrev s_law_stream : Stmt := top 16
abbrev N_law_stream : List Str := ["script"]
theorem sc_law_stream : FnScope N_law_stream ["script"] (defScope s_law_stream) := ⟨rfl, rfl, rfl, by decide +kernel, rfl, by decide +kernel, by decide +kernel⟩
abbrev s_law_next : Stmt := top 17
abbrev N_law_next : List Str := ["stream", "many", "k", "cell", "digit"]
theorem sc_law_next : FnScope N_law_next ["stream", "many"] (defScope s_law_next) := ⟨rfl, rfl, rfl, by decide +kernel, rfl, by decide +kernel, by decide +kernel⟩
abbrev s_law_is_integer : Stmt := top 18
abbrev N_law_is_integer : List Str := ["actual"]
theorem sc_law_is_integer : FnScope N_law_is_integer ["actual"] (defScope s_law_is_integer) := ⟨rfl, rfl, rfl, by decide +kernel, rfl, by decide +kernel, by decide +kernel⟩
abbrev s_law_equal : Stmt := top 19
abbrev N_law_equal : List Str := ["actual", "due", "at"]
theorem sc_law_equal : FnScope N_law_equal ["actual", "due"] (defScope s_law_equal) := ⟨rfl, rfl, rfl, by decide +kernel, rfl, by decide +kernel, by decide +kernel⟩
abbrev s_law_some_kind : Stmt := top 20
abbrev N_law_some_kind : List Str := ["stream", "signature", "x", "y", "pick", "does", "v"]
theorem sc_law_some_kind : FnScope N_law_some_kind ["stream", "signature"] (defScope s_law_some_kind) := ⟨rfl, rfl, rfl, by decide +kernel, rfl, by decide +kernel, by decide +kernel⟩
abbrev slaw : Stmt := top 21
abbrev Nlaw : List Str := ["script", "stream", "signature", "nouns", "verbs", "kind", "at", "wrong", "odd"]
theorem sclaw : FnScope Nlaw ["script"] (defScope slaw) := ⟨rfl, rfl, rfl, by decide +kernel, rfl, by decide +kernel, by decide +kernel⟩
/-! ### what the top has written -/
structure Txt (K : PySem.W.Frag) (mg : Str → Option Value) where
  f_is_integer : Addr
  d_is_integer : FuncData
  F_is_integer : Fun K "is_integer" "is_integer" sis_integer f_is_integer d_is_integer
  g_is_integer : mg "is_integer" = some (.ref f_is_integer)
  b_is_integer : Binds K d_is_integer ["value", "least", "most"] []
  f_is_noun : Addr
  d_is_noun : FuncData
  F_is_noun : Fun K "is_noun" "is_noun" sis_noun f_is_noun d_is_noun
  g_is_noun : mg "is_noun" = some (.ref f_is_noun)
  b_is_noun : Binds K d_is_noun ["signature", "value"] []
  f_is_verb : Addr
  d_is_verb : FuncData
  F_is_verb : Fun K "is_verb" "is_verb" sis_verb f_is_verb d_is_verb
  g_is_verb : mg "is_verb" = some (.ref f_is_verb)
  b_is_verb : Binds K d_is_verb ["signature", "value"] []
  f_is_signature : Addr
  d_is_signature : FuncData
  F_is_signature : Fun K "is_signature" "is_signature" sis_signature f_is_signature d_is_signature
  g_is_signature : mg "is_signature" = some (.ref f_is_signature)
  b_is_signature : Binds K d_is_signature ["value"] []
  f_check_signature : Addr
  d_check_signature : FuncData
  F_check_signature : Fun K "check_signature" "check_signature" scheck_signature f_check_signature d_check_signature
  g_check_signature : mg "check_signature" = some (.ref f_check_signature)
  b_check_signature : Binds K d_check_signature ["signature"] []
  f__is_kind : Addr
  d__is_kind : FuncData
  F__is_kind : Fun K "_is_kind" "_is_kind" s_is_kind f__is_kind d__is_kind
  g__is_kind : mg "_is_kind" = some (.ref f__is_kind)
  b__is_kind : Binds K d__is_kind ["signature", "value"] []
  f__is_mark_rest : Addr
  d__is_mark_rest : FuncData
  F__is_mark_rest : Fun K "_is_mark_rest" "_is_mark_rest" s_is_mark_rest f__is_mark_rest d__is_mark_rest
  g__is_mark_rest : mg "_is_mark_rest" = some (.ref f__is_mark_rest)
  b__is_mark_rest : Binds K d__is_mark_rest ["signature", "rest"] []
  f_is_kind : Addr
  d_is_kind : FuncData
  F_is_kind : Fun K "is_kind" "is_kind" sis_kind f_is_kind d_is_kind
  g_is_kind : mg "is_kind" = some (.ref f_is_kind)
  b_is_kind : Binds K d_is_kind ["signature", "value"] []
  f__law_stream : Addr
  d__law_stream : FuncData
  F__law_stream : Fun K "_law_stream" "_law_stream" s_law_stream f__law_stream d__law_stream
  g__law_stream : mg "_law_stream" = some (.ref f__law_stream)
  b__law_stream : Binds K d__law_stream ["script"] []
  f__law_next : Addr
  d__law_next : FuncData
  F__law_next : Fun K "_law_next" "_law_next" s_law_next f__law_next d__law_next
  g__law_next : mg "_law_next" = some (.ref f__law_next)
  b__law_next : Binds K d__law_next ["stream", "many"] []
  f__law_is_integer : Addr
  d__law_is_integer : FuncData
  F__law_is_integer : Fun K "_law_is_integer" "_law_is_integer" s_law_is_integer f__law_is_integer d__law_is_integer
  g__law_is_integer : mg "_law_is_integer" = some (.ref f__law_is_integer)
  b__law_is_integer : Binds K d__law_is_integer ["actual"] []
  f__law_equal : Addr
  d__law_equal : FuncData
  F__law_equal : Fun K "_law_equal" "_law_equal" s_law_equal f__law_equal d__law_equal
  g__law_equal : mg "_law_equal" = some (.ref f__law_equal)
  b__law_equal : Binds K d__law_equal ["actual", "due"] []
  f__law_some_kind : Addr
  d__law_some_kind : FuncData
  F__law_some_kind : Fun K "_law_some_kind" "_law_some_kind" s_law_some_kind f__law_some_kind d__law_some_kind
  g__law_some_kind : mg "_law_some_kind" = some (.ref f__law_some_kind)
  b__law_some_kind : Binds K d__law_some_kind ["stream", "signature"] []
  n_abs : mg "abs" = none
  n_all : mg "all" = none
  n_bool : mg "bool" = none
  n_int : mg "int" = none
  n_isinstance : mg "isinstance" = none
  n_len : mg "len" = none
  n_list : mg "list" = none
  n_max : mg "max" = none
  n_min : mg "min" = none
  n_range : mg "range" = none
  n_str : mg "str" = none
  n_tuple : mg "tuple" = none
  k_MOST_NOUNS : Tok
  c_MOST_NOUNS : mg "MOST_NOUNS" = some (.int 4 k_MOST_NOUNS)
  k_MOST_VERBS : Tok
  c_MOST_VERBS : mg "MOST_VERBS" = some (.int 2 k_MOST_VERBS)
/-! ### data -/
section
variable {K : PySem.W.Frag} {H H' : Hp} {v : V} {d : PyData}
def tyn : PyData → String
  | .none => "NoneType" | .bool _ => "bool" | .int _ => "int" | .str _ => "str" | .list _ => "list" | .tuple _ => "tuple" | .dict _ => "dict"
theorem tyxL {a : Addr} {xs : List V} (h : SqL K H a xs) : TyX K H (.ref a) (.type "list") := by
  rcases h with (h | ⟨o, h⟩) | ⟨o, its, n, h, c, _⟩
  · exact .base (.lst h)
  · exact .base (.frz h)
  · exact .kList h c
theorem tyxT {a : Addr} {xs : List V} (h : SqT K H a xs) : TyX K H (.ref a) (.type "tuple") := by
  rcases h with (h | ⟨o, h⟩) | ⟨o, its, n, h, c, _⟩
  · exact .base (.tup h)
  · exact .fTuple h
  · exact .kTuple h c
theorem tyx (h : Dp K H v d) : TyX K H v (.type (tyn d)) := by
  cases h with
  | non => exact .base .non
  | bl b => exact .base (.bl b)
  | int i => exact .base (.int i)
  | str x => exact .base (.str x)
  | lst h _ => exact tyxL h
  | tup h _ => exact tyxT h
theorem shS (x : Str) (h : PyData.strOk x = true := by decide +kernel) : SeqAt.shaped (.str x) = true := by
  simp [SeqAt.shaped, PyData.canLay0, PyData.depth, h]
theorem shI (x : Int) : SeqAt.shaped (.int x) = true := by first | rfl | simp [SeqAt.shaped, PyData.canLay0, PyData.depth]
theorem shB (x : Bool) : SeqAt.shaped (.bool x) = true := by first | rfl | simp [SeqAt.shaped, PyData.canLay0, PyData.depth]
theorem shN : SeqAt.shaped .none = true := by first | rfl | simp [SeqAt.shaped, PyData.canLay0, PyData.depth]
def isI : PyData → Bool | .int _ => true | .bool _ => true | _ => false
def isB : PyData → Bool | .bool _ => true | _ => false
def isS : PyData → Bool | .str _ => true | _ => false
def isT : PyData → Bool | .tuple _ => true | _ => false
def isL : PyData → Bool | .list _ => true | _ => false
theorem kitI : ∀ d : PyData, PySem.W.kitOne K (.type (tyn d)) (.type "int") = some (isI d)
  | .none => kit_ty (a := "NoneType") (b := "int") (r := false) (by decide +kernel)
  | .bool _ => kit_ty (a := "bool") (b := "int") (r := true) (by decide +kernel)
  | .int _ => kit_ty (a := "int") (b := "int") (r := true) (by decide +kernel)
  | .str _ => kit_ty (a := "str") (b := "int") (r := false) (by decide +kernel)
  | .list _ => kit_ty (a := "list") (b := "int") (r := false) (by decide +kernel)
  | .tuple _ => kit_ty (a := "tuple") (b := "int") (r := false) (by decide +kernel)
  | .dict _ => kit_ty (a := "dict") (b := "int") (r := false) (by decide +kernel)
theorem kitBo : ∀ d : PyData, PySem.W.kitOne K (.type (tyn d)) (.type "bool") = some (isB d)
  | .none => kit_ty (a := "NoneType") (b := "bool") (r := false) (by decide +kernel)
  | .bool _ => kit_ty (a := "bool") (b := "bool") (r := true) (by decide +kernel)
  | .int _ => kit_ty (a := "int") (b := "bool") (r := false) (by decide +kernel)
  | .str _ => kit_ty (a := "str") (b := "bool") (r := false) (by decide +kernel)
  | .list _ => kit_ty (a := "list") (b := "bool") (r := false) (by decide +kernel)
  | .tuple _ => kit_ty (a := "tuple") (b := "bool") (r := false) (by decide +kernel)
  | .dict _ => kit_ty (a := "dict") (b := "bool") (r := false) (by decide +kernel)
theorem kitS : ∀ d : PyData, PySem.W.kitOne K (.type (tyn d)) (.type "str") = some (isS d)
  | .none => kit_ty (a := "NoneType") (b := "str") (r := false) (by decide +kernel)
  | .bool _ => kit_ty (a := "bool") (b := "str") (r := false) (by decide +kernel)
  | .int _ => kit_ty (a := "int") (b := "str") (r := false) (by decide +kernel)
  | .str _ => kit_ty (a := "str") (b := "str") (r := true) (by decide +kernel)
  | .list _ => kit_ty (a := "list") (b := "str") (r := false) (by decide +kernel)
  | .tuple _ => kit_ty (a := "tuple") (b := "str") (r := false) (by decide +kernel)
  | .dict _ => kit_ty (a := "dict") (b := "str") (r := false) (by decide +kernel)
theorem kitT : ∀ d : PyData, PySem.W.kitOne K (.type (tyn d)) (.type "tuple") = some (isT d)
  | .none => kit_ty (a := "NoneType") (b := "tuple") (r := false) (by decide +kernel)
  | .bool _ => kit_ty (a := "bool") (b := "tuple") (r := false) (by decide +kernel)
  | .int _ => kit_ty (a := "int") (b := "tuple") (r := false) (by decide +kernel)
  | .str _ => kit_ty (a := "str") (b := "tuple") (r := false) (by decide +kernel)
  | .list _ => kit_ty (a := "list") (b := "tuple") (r := false) (by decide +kernel)
  | .tuple _ => kit_ty (a := "tuple") (b := "tuple") (r := true) (by decide +kernel)
  | .dict _ => kit_ty (a := "dict") (b := "tuple") (r := false) (by decide +kernel)
theorem kitL : ∀ d : PyData, PySem.W.kitOne K (.type (tyn d)) (.type "list") = some (isL d)
  | .none => kit_ty (a := "NoneType") (b := "list") (r := false) (by decide +kernel)
  | .bool _ => kit_ty (a := "bool") (b := "list") (r := false) (by decide +kernel)
  | .int _ => kit_ty (a := "int") (b := "list") (r := false) (by decide +kernel)
  | .str _ => kit_ty (a := "str") (b := "list") (r := false) (by decide +kernel)
  | .list _ => kit_ty (a := "list") (b := "list") (r := true) (by decide +kernel)
  | .tuple _ => kit_ty (a := "tuple") (b := "list") (r := false) (by decide +kernel)
  | .dict _ => kit_ty (a := "dict") (b := "list") (r := false) (by decide +kernel)
def isInt (d : PyData) (lo hi : Int) : Bool := match d with | .int i => decide (lo ≤ i) && decide (i ≤ hi) | _ => false
end
section
variable {P : Program} {w : World} {K : PySem.W.Frag} {mg : Str → Option Value} {base : Heap}
def spInteger (K : PySem.W.Frag) : Sp := fun vs H Q _ => ∃ (v : V) (d : PyData) (lo hi : Int), vs = [v, .int lo, .int hi] ∧ Dp K H v d ∧ Q (.bl (isInt d lo hi)) H
theorem ok_is_integer (T : Txt K mg) : FnOk P w K mg base CX0 1 T.f_is_integer T.d_is_integer ["value", "least", "most"] (spInteger K) := by
  refine T.F_is_integer.ok scis_integer (fun vs H Q E h => ?_) (fun cdv A outer s H vs Q E hr h => ?_)
  · obtain ⟨v, d, lo, hi, rfl, _⟩ := h
    rfl
  · obtain ⟨v, d, lo, hi, rfl, hd, k⟩ := h
    refine ⟨_, (pss_one (ps_ret (pe_and (pe_callB call_isi (by rfl) T.n_isinstance (by decide +kernel) (pa_cons (pv 0) (pa_cons (pe_bltn (v := .ty "int") (by rfl) T.n_int (by decide +kernel) rfl) pa_nil))) (pe_and (pe_not (pe_callB call_isi (by rfl) T.n_isinstance (by decide +kernel) (pa_cons (pv 0) (pa_cons (pe_bltn (v := .ty "bool") (by rfl) T.n_bool (by decide +kernel) rfl) pa_nil)))) (pe_one (pe_chain op_le op_le (pv 1) (pv 0) (pv 2))))))), ?_⟩
    refine ⟨v, rfl, v, .ty "int", _, _, _, rfl, .ty _, tyx hd, kitI d, _, rfl, ?_⟩
    cases hd with
    | non => exact iteF k
    | str x => exact iteF k
    | lst _ _ => exact iteF k
    | tup _ _ => exact iteF k
    | bl b =>
      refine iteT ?_
      refine ⟨_, rfl, _, .ty "bool", _, _, _, rfl, .ty _, tyx (.bl b), kitBo _, _, rfl, _, rfl, ?_⟩
      exact iteF k
    | int i =>
      refine iteT ?_
      refine ⟨_, rfl, _, .ty "bool", _, _, _, rfl, .ty _, tyx (.int i), kitBo _, _, rfl, _, rfl, iteT ?_⟩
      refine ⟨_, rfl, _, rfl, _, _, rfl, rfl, _, rfl, ?_⟩
      by_cases h1 : lo ≤ i
      · rw [decide_eq_true h1]
        refine iteT ⟨_, rfl, _, _, rfl, rfl, ?_⟩
        have e : isInt (.int i) lo hi = decide (i ≤ hi) := by
          show (decide (lo ≤ i) && decide (i ≤ hi)) = _
          rw [decide_eq_true h1, Bool.true_and]
        rw [e] at k
        exact k
      · rw [decide_eq_false h1]
        have e : isInt (.int i) lo hi = false := by
          show (decide (lo ≤ i) && decide (i ≤ hi)) = _
          rw [decide_eq_false h1, Bool.false_and]
        rw [e] at k
        exact iteF k
end
/-! ### heaps, tuples -/
section
variable {K : PySem.W.Frag} {H H' : Hp} {v : V} {d : PyData}
theorem same_upd {p : Addr} {o : HO} (h : H p = none) : Same H (upd H p o) := fun b x e => by
  rw [upd_ne (ne_of_none e h)]
  exact e
theorem Same.sqT {a : Addr} {xs : List V} (e : Same H H') (h : SqT K H a xs) : SqT K H' a xs := by
  rcases h with (h | ⟨o, h⟩) | h
  · exact .inl (.inl (e _ _ h))
  · exact .inl (.inr ⟨o, e _ _ h⟩)
  · exact .inr h
theorem DpAll.length : ∀ {xs : List V} {ds : List PyData}, DpAll K H xs ds → xs.length = ds.length
  | _, _, .nil => rfl
  | _, _, .cons _ t => by
    rw [List.length_cons, List.length_cons, DpAll.length t]
theorem DpAll.uncons {n : Nat} : ∀ {xs : List V} {ds : List PyData}, DpAll K H xs ds → xs.length = n + 1 → ∃ x xs' d ds', xs = x :: xs' ∧ ds = d :: ds' ∧ Dp K H x d ∧ DpAll K H xs' ds' ∧ xs'.length = n
  | _, _, .nil, h => nomatch h
  | _, _, .cons h t, e => ⟨_, _, _, _, rfl, rfl, h, t, Nat.succ.inj e⟩
theorem DpAll.empty {xs : List V} {ds : List PyData} (h : DpAll K H xs ds) (e : xs.length = 0) : xs = [] ∧ ds = [] := by
  cases h with
  | nil => exact ⟨rfl, rfl⟩
  | cons _ _ => cases e
mutual
theorem keepD (e : Same H H') : ∀ (d : PyData) (v : V), Dp K H v d → Dp K H' v d
  | .none, _, .non => .non
  | .bool _, _, .bl b => .bl b
  | .int _, _, .int i => .int i
  | .str _, _, .str x => .str x
  | .list ds, _, .lst h a => .lst (e.seq h) (keepDs e ds _ a)
  | .tuple ds, _, .tup h a => .tup (Same.sqT e h) (keepDs e ds _ a)
theorem keepDs (e : Same H H') : ∀ (ds : List PyData) (vs : List V), DpAll K H vs ds → DpAll K H' vs ds
  | [], _, .nil => .nil
  | d :: ds, _, .cons h t => .cons (keepD e d _ h) (keepDs e ds _ t)
end
theorem slA_ok {a : Addr} {xs : List V} {lo hi : Option Int} {Q : VK} (h : SqT K H a xs) (q : ∀ t H', Same H H' → SqT K H' t (cutV xs lo hi) → Q (.ref t) H') : rSlA K (.ref a) lo hi H Q := by
  refine ⟨a, xs, rfl, h, fun e => q _ _ (Same.refl _) ?_, fun _ p np => q _ _ (same_upd np) (.of upd_same)⟩
  have e2 : cutV xs lo hi = xs := by
    unfold cutV
    rw [e.1, e.2]
    simp
  rw [e2]
  exact h
theorem catA_ok {a b : Addr} {xs ys : List V} {Q : VK} (h1 : SqT K H a xs) (h2 : SqT K H b ys) (hl : xs.length + ys.length ≤ sizeLine) (q : ∀ t H', Same H H' → SqT K H' t (xs ++ ys) → Q (.ref t) H') : rCatA K (.ref a) (.ref b) H Q := by
  refine ⟨a, b, xs, ys, rfl, rfl, h1, h2, hl, fun e => q _ _ (Same.refl _) ?_, fun _ e => q _ _ (Same.refl _) ?_, fun _ _ p np => q _ _ (same_upd np) (.of upd_same)⟩
  · rw [e]
    exact h2
  · rw [e, List.append_nil]
    exact h1
theorem cut_from {xs : List V} {k : Nat} (hk : k ≤ xs.length) : cutV xs (some (k : Int)) none = xs.drop k := by
  unfold cutV
  rw [HT.sIx_nat, HT.sIx_none, Nat.min_eq_left hk]
  exact List.take_of_length_le (by rw [List.length_drop]; omega)
theorem cut_to {xs : List V} {k : Nat} (hk : k ≤ xs.length) : cutV xs none (some (k : Int)) = xs.take k := by
  unfold cutV
  rw [HT.sIx_nat, HT.sIx_none, Nat.min_eq_left hk]
  simp
theorem small {n : Nat} (h : n ≤ 1000) : n ≤ sizeLine := Nat.le_of_lt (small1000 h)
end
/-! ### what the program reckons -/
def Sig (K : PySem.W.Frag) (H : Hp) (v : V) (n m : Int) : Prop := ∃ a, v = .ref a ∧ SqT K H a [.int n, .int m]
theorem Sig.keep {K : PySem.W.Frag} {H H' : Hp} {v : V} {n m : Int} (e : Same H H') (h : Sig K H v n m) : Sig K H' v n m := by
  obtain ⟨a, rfl, h⟩ := h
  exact ⟨a, rfl, Same.sqT e h⟩
def isSig : PyData → Bool
  | .tuple [a, b] => isInt a 1 4 && isInt b 0 2
  | _ => false
def isMark (n m : Int) : List PyData → Bool
  | [a, b, c, d] => isB a && (isInt b 0 (m - 1) && (isB c && isInt d 0 (n - 1)))
  | _ => false
def isStr (d : PyData) (x : Str) : Bool := PyData.eqv d (.str x)
def ltD : PyData → PyData → Bool
  | .int i, .int j => decide (i < j)
  | _, _ => false
def isKindR (n m : Int) (w x : PyData) (rest : List PyData) : Bool :=
  if isStr w "one" = true then rest.isEmpty
  else if isStr w "both" = true then (match rest with | [y] => isInt y 0 (n - 1) && ltD x y | _ => false)
  else if isStr w "mark" = true then isMark n m rest
  else isStr w "self" && (match rest with | [a, b] => isB a && isInt b 0 (m - 1) | _ => false)
def isKind (n m : Int) : PyData → Bool
  | .tuple (w :: x :: rest) => isInt x 0 (n - 1) && isKindR n m w x rest
  | _ => false
def wordOk : PyData → Bool
  | .tuple (w :: _) => SeqAt.shaped w
  | _ => true
theorem isInt_int {d : PyData} {lo hi : Int} (h : isInt d lo hi = true) : ∃ i, d = .int i := by
  cases d with
  | int i => exact ⟨i, rfl⟩
  | _ => exact absurd h (by simp [isInt])
section
variable {P : Program} {w : World} {K : PySem.W.Frag} {mg : Str → Option Value} {base : Heap}
def spNoun (K : PySem.W.Frag) : Sp := fun vs H Q _ => ∃ (v x : V) (d : PyData) (n m : Int), vs = [v, x] ∧ Sig K H v n m ∧ Dp K H x d ∧ Q (.bl (isInt d 0 (n - 1))) H
theorem ok_is_noun (T : Txt K mg) : FnOk P w K mg base CX0 2 T.f_is_noun T.d_is_noun ["signature", "value"] (spNoun K) := by
  have G_is_integer := ok_is_integer (P := P) (w := w) (base := base) T
  refine T.F_is_noun.ok scis_noun (fun vs H Q E h => ?_) (fun cdv A outer s H vs Q E hr h => ?_)
  · obtain ⟨v, x, d, n, m, rfl, _⟩ := h
    rfl
  · obtain ⟨v, x, d, n, m, rfl, ⟨a, rfl, ha⟩, hd, k⟩ := h
    refine ⟨_, (pss_one (ps_ret (pe_call G_is_integer (hr.mono (by decide)) (by rfl) T.g_is_integer T.F_is_integer.kp T.b_is_integer .nil pass0 (pa_cons (pv 1) (pa_cons pe_int (pa_cons (pe_op op_sub (pe_ix ix_tup (pv 0) pe_int (fun _ _ => rfl)) pe_int) pa_nil)))))), ?_⟩
    exact ⟨x, rfl, .ref a, rfl, a, _, _, _, rfl, rfl, ha, atI_nat (j := 0) rfl, _, _, rfl, rfl, x, d, 0, n - 1, rfl, hd, k⟩
def spVerb (K : PySem.W.Frag) : Sp := fun vs H Q _ => ∃ (v x : V) (d : PyData) (n m : Int), vs = [v, x] ∧ Sig K H v n m ∧ Dp K H x d ∧ Q (.bl (isInt d 0 (m - 1))) H
theorem ok_is_verb (T : Txt K mg) : FnOk P w K mg base CX0 2 T.f_is_verb T.d_is_verb ["signature", "value"] (spVerb K) := by
  have G_is_integer := ok_is_integer (P := P) (w := w) (base := base) T
  refine T.F_is_verb.ok scis_verb (fun vs H Q E h => ?_) (fun cdv A outer s H vs Q E hr h => ?_)
  · obtain ⟨v, x, d, n, m, rfl, _⟩ := h
    rfl
  · obtain ⟨v, x, d, n, m, rfl, ⟨a, rfl, ha⟩, hd, k⟩ := h
    refine ⟨_, (pss_one (ps_ret (pe_call G_is_integer (hr.mono (by decide)) (by rfl) T.g_is_integer T.F_is_integer.kp T.b_is_integer .nil pass0 (pa_cons (pv 1) (pa_cons pe_int (pa_cons (pe_op op_sub (pe_ix ix_tup (pv 0) pe_int (fun _ _ => rfl)) pe_int) pa_nil)))))), ?_⟩
    exact ⟨x, rfl, .ref a, rfl, a, _, _, _, rfl, rfl, ha, atI_nat (j := 1) rfl, _, _, rfl, rfl, x, d, 0, m - 1, rfl, hd, k⟩
def spSignature (K : PySem.W.Frag) : Sp := fun vs H Q _ => ∃ (v : V) (d : PyData), vs = [v] ∧ Dp K H v d ∧ Q (.bl (isSig d)) H
theorem ok_is_signature (T : Txt K mg) : FnOk P w K mg base CX0 2 T.f_is_signature T.d_is_signature ["value"] (spSignature K) := by
  have G_is_integer := ok_is_integer (P := P) (w := w) (base := base) T
  refine T.F_is_signature.ok scis_signature (fun vs H Q E h => ?_) (fun cdv A outer s H vs Q E hr h => ?_)
  · obtain ⟨v, d, rfl, _⟩ := h
    rfl
  · obtain ⟨v, d, rfl, hd, k⟩ := h
    refine ⟨_, (pss_cons (ps_if (PW.pt (pw_or (pt_not (pt_val (pe_callB call_isi (by rfl) T.n_isinstance (by decide +kernel) (pa_cons (pv 0) (pa_cons (pe_bltn (v := .ty "tuple") (by rfl) T.n_tuple (by decide +kernel) rfl) pa_nil))))) (pw_or1 (pt_cmpR op_ne (pe_callB call_len_seq (by rfl) T.n_len (by decide +kernel) (pa_cons (pv 0) pa_nil)) pe_int (nomark _))))) (pss_one (ps_ret pe_bl)) pss_nil)
      (pss_one (ps_ret (pe_and (pe_call G_is_integer (hr.mono (by decide)) (by rfl) T.g_is_integer T.F_is_integer.kp T.b_is_integer .nil pass0 (pa_cons (pe_ix ix_tup (pv 0) pe_int (fun _ _ => rfl)) (pa_cons pe_int (pa_cons (pe_glob (v := .int 4) rfl T.c_MOST_NOUNS ⟨_, rfl⟩) pa_nil)))) (pe_one (pe_call G_is_integer (hr.mono (by decide)) (by rfl) T.g_is_integer T.F_is_integer.kp T.b_is_integer .nil pass0 (pa_cons (pe_ix ix_tup (pv 0) pe_int (fun _ _ => rfl)) (pa_cons pe_int (pa_cons (pe_glob (v := .int 2) rfl T.c_MOST_VERBS ⟨_, rfl⟩) pa_nil))))))))), ?_⟩
    refine ⟨v, rfl, v, .ty "tuple", _, _, _, rfl, .ty _, tyx hd, kitT d, _, rfl, ?_⟩
    cases hd with
    | non => exact iteT (iteT k)
    | bl b => exact iteT (iteT k)
    | int i => exact iteT (iteT k)
    | str x => exact iteT (iteT k)
    | lst _ _ => exact iteT (iteT k)
    | @tup a xs ds hs ha =>
      refine iteF ⟨_, rfl, a, xs, rfl, .inr hs, rfl, _, rfl, ?_⟩
      have hl := DpAll.length ha
      by_cases h2 : xs.length = 2
      · rw [h2]
        refine iteF ?_
        cases ha with
        | nil => cases h2
        | @cons x xs2 d1 ds2 h1 ha2 =>
          cases ha2 with
          | nil => cases h2
          | @cons y xs3 d2 ds3 h3 ha3 =>
            cases ha3 with
            | cons _ _ => rw [List.length_cons, List.length_cons, List.length_cons] at h2; omega
            | nil =>
              refine ⟨_, rfl, a, _, _, x, rfl, rfl, hs, atI_nat (j := 0) rfl, x, d1, 1, 4, rfl, h1, _, rfl, ?_⟩
              by_cases q : isInt d1 1 4 = true
              · rw [q]
                refine iteT ⟨_, rfl, a, _, _, y, rfl, rfl, hs, atI_nat (j := 1) rfl, y, d2, 0, 2, rfl, h3, ?_⟩
                have e : isSig (.tuple [d1, d2]) = isInt d2 0 2 := by
                  show (isInt d1 1 4 && isInt d2 0 2) = _
                  rw [q, Bool.true_and]
                rw [e] at k
                exact k
              · rw [Bool.eq_false_iff.mpr q]
                have e : isSig (.tuple [d1, d2]) = false := by
                  show (isInt d1 1 4 && isInt d2 0 2) = _
                  rw [Bool.eq_false_iff.mpr q, Bool.false_and]
                rw [e] at k
                exact iteF k
      · have e0 : decide (V.int (xs.length : Int) = V.int 2) = false := decide_eq_false fun z => h2 (by have := V.int.inj z; omega)
        rw [e0]
        refine iteT ?_
        have e : isSig (.tuple ds) = false := by
          rw [hl] at h2
          match ds, h2 with
          | [], _ => rfl
          | [_], _ => rfl
          | [_, _], h => exact absurd rfl h
          | _ :: _ :: _ :: _, _ => rfl
        rw [e] at k
        exact k
def spCheckSig (K : PySem.W.Frag) : Sp := fun vs H Q _ => ∃ (v : V) (n m : Int), vs = [v] ∧ Sig K H v n m ∧ 1 ≤ n ∧ n ≤ 4 ∧ 0 ≤ m ∧ m ≤ 2 ∧ Q .non H
theorem Sig.dp {K : PySem.W.Frag} {H : Hp} {v : V} {n m : Int} (h : Sig K H v n m) : Dp K H v (.tuple [.int n, .int m]) := by
  obtain ⟨a, rfl, h⟩ := h
  exact .tup h (.cons (.int n) (.cons (.int m) .nil))
theorem isSig_of {n m : Int} (h1 : 1 ≤ n) (h2 : n ≤ 4) (h3 : 0 ≤ m) (h4 : m ≤ 2) : isSig (.tuple [.int n, .int m]) = true := by
  show ((decide (1 ≤ n) && decide (n ≤ 4)) && (decide (0 ≤ m) && decide (m ≤ 2))) = true
  rw [decide_eq_true h1, decide_eq_true h2, decide_eq_true h3, decide_eq_true h4]
  rfl
theorem ok_check_signature (T : Txt K mg) : FnOk P w K mg base CX0 3 T.f_check_signature T.d_check_signature ["signature"] (spCheckSig K) := by
  have G_is_signature := ok_is_signature (P := P) (w := w) (base := base) T
  refine T.F_check_signature.ok sccheck_signature (fun vs H Q E h => ?_) (fun cdv A outer s H vs Q E hr h => ?_)
  · obtain ⟨v, n, m, rfl, _⟩ := h
    rfl
  · obtain ⟨v, n, m, rfl, hs, h1, h2, h3, h4, k⟩ := h
    refine ⟨_, (pss_one (ps_if (pt_not (pt_val (pe_call G_is_signature (hr.mono (by decide)) (by rfl) T.g_is_signature T.F_is_signature.kp T.b_is_signature .nil pass0 (pa_cons (pv 0) pa_nil)))) (pss_one ps_never) pss_nil)), ?_⟩
    refine ⟨v, rfl, v, _, rfl, hs.dp, _, rfl, ?_⟩
    rw [isSig_of h1 h2 h3 h4]
    exact iteF k
def spMark (K : PySem.W.Frag) : Sp := fun vs H Q _ => ∃ (v : V) (n m : Int) (a : Addr) (xs : List V) (ds : List PyData), vs = [v, .ref a] ∧ Sig K H v n m ∧ SqT K H a xs ∧ DpAll K H xs ds ∧ Q (.bl (isMark n m ds)) H
theorem and_step {A : Bool} {B : Bool} {H : Hp} {Q : VK} {R : Prop} (k : Q (.bl (A && B)) H) (h : Q (.bl B) H → R) : if A = true then R else Q (.bl false) H := by
  cases A with
  | true => exact iteT (h k)
  | false => exact iteF k
theorem ok__is_mark_rest (T : Txt K mg) : FnOk P w K mg base CX0 3 T.f__is_mark_rest T.d__is_mark_rest ["signature", "rest"] (spMark K) := by
  have G_is_noun := ok_is_noun (P := P) (w := w) (base := base) T
  have G_is_verb := ok_is_verb (P := P) (w := w) (base := base) T
  refine T.F__is_mark_rest.ok sc_is_mark_rest (fun vs H Q E h => ?_) (fun cdv A outer s H vs Q E hr h => ?_)
  · obtain ⟨v, n, m, a, xs, ds, rfl, _⟩ := h
    rfl
  · obtain ⟨v, n, m, a, xs, ds, rfl, hs, ht, hd, k⟩ := h
    refine ⟨_, (pss_cons (ps_if (pt_cmpR op_ne (pe_callB call_len_seq (by rfl) T.n_len (by decide +kernel) (pa_cons (pv 1) pa_nil)) pe_int (nomark _)) (pss_one (ps_ret pe_bl)) pss_nil)
      (pss_cons (ps_asg (pv 1) (pg_tup rfl (pgs_cons (pg_name (i := 2) sc_is_mark_rest.nd rfl (Or.inl rfl)) (pgs_cons (pg_name (i := 3) sc_is_mark_rest.nd rfl (Or.inl rfl)) (pgs_cons (pg_name (i := 4) sc_is_mark_rest.nd rfl (Or.inl rfl)) (pgs_cons (pg_name (i := 5) sc_is_mark_rest.nd rfl (Or.inl rfl)) pgs_nil))))))
      (pss_one (ps_ret (pe_and (pe_callB call_isi (by rfl) T.n_isinstance (by decide +kernel) (pa_cons (pv 2) (pa_cons (pe_bltn (v := .ty "bool") (by rfl) T.n_bool (by decide +kernel) rfl) pa_nil))) (pe_and (pe_call G_is_verb (hr.mono (by decide)) (by rfl) T.g_is_verb T.F_is_verb.kp T.b_is_verb .nil pass0 (pa_cons (pv 0) (pa_cons (pv 3) pa_nil))) (pe_and (pe_callB call_isi (by rfl) T.n_isinstance (by decide +kernel) (pa_cons (pv 4) (pa_cons (pe_bltn (v := .ty "bool") (by rfl) T.n_bool (by decide +kernel) rfl) pa_nil))) (pe_one (pe_call G_is_noun (hr.mono (by decide)) (by rfl) T.g_is_noun T.F_is_noun.kp T.b_is_noun .nil pass0 (pa_cons (pv 0) (pa_cons (pv 5) pa_nil))))))))))), ?_⟩
    have hl := DpAll.length hd
    refine ⟨_, rfl, a, xs, rfl, .inr ht, rfl, _, rfl, ?_⟩
    by_cases h4 : xs.length = 4
    · rw [h4]
      refine iteF ?_
      obtain ⟨x1, xs1, e1, ds1, rfl, rfl, d1, hd, h4⟩ := DpAll.uncons hd h4
      obtain ⟨x2, xs2, e2, ds2, rfl, rfl, d2, hd, h4⟩ := DpAll.uncons hd h4
      obtain ⟨x3, xs3, e3, ds3, rfl, rfl, d3, hd, h4⟩ := DpAll.uncons hd h4
      obtain ⟨x4, xs4, e4, ds4, rfl, rfl, d4, hd, h4⟩ := DpAll.uncons hd h4
      obtain ⟨rfl, rfl⟩ := DpAll.empty hd h4
      refine ⟨_, rfl, a, _, rfl, ht, rfl, _, _, rfl, _, _, rfl, _, _, rfl, _, _, rfl, rfl, ?_⟩
      refine ⟨_, rfl, _, .ty "bool", _, _, _, rfl, .ty _, tyx d1, kitBo _, _, rfl, and_step k fun k => ?_⟩
      refine ⟨_, rfl, _, rfl, _, _, _, n, m, rfl, hs, d2, _, rfl, and_step k fun k => ?_⟩
      refine ⟨_, rfl, _, .ty "bool", _, _, _, rfl, .ty _, tyx d3, kitBo _, _, rfl, and_step k fun k => ?_⟩
      exact ⟨_, rfl, _, rfl, _, _, _, n, m, rfl, hs, d4, k⟩
    · have e0 : decide (V.int (xs.length : Int) = V.int 4) = false := decide_eq_false fun z => h4 (by have := V.int.inj z; omega)
      rw [e0]
      refine iteT ?_
      have e : isMark n m ds = false := by
        rw [hl] at h4
        match ds, h4 with
        | [], _ => rfl
        | [_], _ => rfl
        | [_, _], _ => rfl
        | [_, _, _], _ => rfl
        | [_, _, _, _], h => exact absurd rfl h
        | _ :: _ :: _ :: _ :: _ :: _, _ => rfl
      rw [e] at k
      exact k
end
section
variable {P : Program} {w : World} {K : PySem.W.Frag} {mg : Str → Option Value} {base : Heap}
theorem and_step2 {A : Bool} {B : Bool} {H : Hp} {Q : VK} {R : Prop} (k : Q (.bl (A && B)) H) (h : A = true → Q (.bl B) H → R) : if A = true then R else Q (.bl false) H := by
  cases A with
  | true => exact iteT (h rfl k)
  | false => exact iteF k
theorem dp_int {K : PySem.W.Frag} {H : Hp} {v : V} {i : Int} (h : Dp K H v (.int i)) : v = .int i := by
  cases h
  rfl
theorem len_dec {K : PySem.W.Frag} {H : Hp} {xs : List V} {ds : List PyData} (h : DpAll K H xs ds) (j : Nat) : decide (V.int (xs.length : Int) = V.int (j : Int)) = decide (ds.length = j) := by
  rw [DpAll.length h]
  by_cases e : ds.length = j
  · rw [decide_eq_true e, e, decide_eq_true rfl]
  · rw [decide_eq_false e, decide_eq_false fun z => e (by have := V.int.inj z; omega)]
def spKind_ (K : PySem.W.Frag) : Sp := fun vs H Q _ => ∃ (v x : V) (d : PyData) (n m : Int), vs = [v, x] ∧ Sig K H v n m ∧ Dp K H x d ∧ wordOk d = true ∧ ∀ H', Same H H' → Q (.bl (isKind n m d)) H'
theorem ok__is_kind (T : Txt K mg) : FnOk P w K mg base CX0 4 T.f__is_kind T.d__is_kind ["signature", "value"] (spKind_ K) := by
  have G_is_noun := ok_is_noun (P := P) (w := w) (base := base) T
  have G_is_verb := ok_is_verb (P := P) (w := w) (base := base) T
  have G__is_mark_rest := ok__is_mark_rest (P := P) (w := w) (base := base) T
  refine T.F__is_kind.ok sc_is_kind (fun vs H Q E h => ?_) (fun cdv A outer s H vs Q E hr h => ?_)
  · obtain ⟨v, x, d, n, m, rfl, _⟩ := h
    rfl
  · obtain ⟨v, x, d, n, m, rfl, hs, hd, hw, k⟩ := h
    refine ⟨_, (pss_cons (ps_if (PW.pt (pw_or (pt_not (pt_val (pe_callB call_isi (by rfl) T.n_isinstance (by decide +kernel) (pa_cons (pv 1) (pa_cons (pe_bltn (v := .ty "tuple") (by rfl) T.n_tuple (by decide +kernel) rfl) pa_nil))))) (pw_or (pt_cmpR op_lt (pe_callB call_len_seq (by rfl) T.n_len (by decide +kernel) (pa_cons (pv 1) pa_nil)) pe_int (nomark _)) (pw_or1 (pt_not (pt_val (pe_call G_is_noun (hr.mono (by decide)) (by rfl) T.g_is_noun T.F_is_noun.kp T.b_is_noun .nil pass0 (pa_cons (pv 0) (pa_cons (pe_ix ix_tup (pv 1) pe_int (fun _ _ => rfl)) pa_nil))))))))) (pss_one (ps_ret pe_bl)) pss_nil)
      (pss_cons (ps_par (i := 2) (j := 3) (by rfl) sc_is_kind.nd rfl rfl (by decide) rfl rfl (pa_cons (pe_ix ix_tup (pv 1) pe_int (fun _ _ => rfl)) (pa_cons (pe_slice sl_tupA (pv 1) (po_some pe_int) po_none) pa_nil)) (by rfl))
      (pss_cons (ps_if (pt_cmpR (op_eqD hr.units) (pv 2) pe_str (nomark _)) (pss_one (ps_ret (pe_cmpR op_eq (pe_callB call_len_seq (by rfl) T.n_len (by decide +kernel) (pa_cons (pv 3) pa_nil)) pe_int (nomark _)))) pss_nil)
      (pss_cons (ps_if (pt_cmpR (op_eqD hr.units) (pv 2) pe_str (nomark _)) (pss_one (ps_ret (pe_and (pe_cmpR op_eq (pe_callB call_len_seq (by rfl) T.n_len (by decide +kernel) (pa_cons (pv 3) pa_nil)) pe_int (nomark _)) (pe_and (pe_call G_is_noun (hr.mono (by decide)) (by rfl) T.g_is_noun T.F_is_noun.kp T.b_is_noun .nil pass0 (pa_cons (pv 0) (pa_cons (pe_ix ix_tup (pv 3) pe_int (fun _ _ => rfl)) pa_nil))) (pe_one (pe_cmpR op_lt (pe_ix ix_tup (pv 1) pe_int (fun _ _ => rfl)) (pe_ix ix_tup (pv 3) pe_int (fun _ _ => rfl)) (nomark _))))))) pss_nil)
      (pss_cons (ps_if (pt_cmpR (op_eqD hr.units) (pv 2) pe_str (nomark _)) (pss_one (ps_ret (pe_call G__is_mark_rest (hr.mono (by decide)) (by rfl) T.g__is_mark_rest T.F__is_mark_rest.kp T.b__is_mark_rest .nil pass0 (pa_cons (pv 0) (pa_cons (pv 3) pa_nil))))) pss_nil)
      (pss_one (ps_ret (pe_and (pe_cmpR (op_eqD hr.units) (pv 2) pe_str (nomark _)) (pe_and (pe_cmpR op_eq (pe_callB call_len_seq (by rfl) T.n_len (by decide +kernel) (pa_cons (pv 3) pa_nil)) pe_int (nomark _)) (pe_and (pe_callB call_isi (by rfl) T.n_isinstance (by decide +kernel) (pa_cons (pe_ix ix_tup (pv 3) pe_int (fun _ _ => rfl)) (pa_cons (pe_bltn (v := .ty "bool") (by rfl) T.n_bool (by decide +kernel) rfl) pa_nil))) (pe_one (pe_call G_is_verb (hr.mono (by decide)) (by rfl) T.g_is_verb T.F_is_verb.kp T.b_is_verb .nil pass0 (pa_cons (pv 0) (pa_cons (pe_ix ix_tup (pv 3) pe_int (fun _ _ => rfl)) pa_nil)))))))))))))), ?_⟩
    refine ⟨x, rfl, x, .ty "tuple", _, _, _, rfl, .ty _, tyx hd, kitT d, _, rfl, ?_⟩
    cases hd with
    | non => exact iteT (iteT (k H (Same.refl H)))
    | bl b => exact iteT (iteT (k H (Same.refl H)))
    | int i => exact iteT (iteT (k H (Same.refl H)))
    | str x => exact iteT (iteT (k H (Same.refl H)))
    | lst _ _ => exact iteT (iteT (k H (Same.refl H)))
    | @tup a xs ds ht ha =>
      refine iteF ⟨_, rfl, a, xs, rfl, .inr ht, _, _, rfl, rfl, _, rfl, ?_⟩
      have hl := DpAll.length ha
      by_cases h2 : 2 ≤ xs.length
      · rw [decide_eq_false (by omega)]
        refine iteF ?_
        obtain ⟨w0, xs1, e0, ds1, rfl, rfl, d0, ha, h3⟩ := DpAll.uncons (n := xs.length - 1) ha (by omega)
        obtain ⟨x1, xs2, e1, ds2, rfl, rfl, d1, ha, h3⟩ := DpAll.uncons (n := xs1.length - 1) ha (by rw [List.length_cons] at h2; omega)
        refine ⟨_, rfl, .ref a, rfl, a, _, _, _, rfl, rfl, ht, atI_nat (j := 1) rfl, v, x1, e1, n, m, rfl, hs, d1, _, rfl, ?_⟩
        have ek : isKind n m (.tuple (e0 :: e1 :: ds2)) = (isInt e1 0 (n - 1) && isKindR n m e0 e1 ds2) := rfl
        rw [ek] at k
        by_cases q1 : isInt e1 0 (n - 1) = true
        · rw [q1]
          refine iteF ?_
          have k : ∀ H', Same H H' → Q (.bl (isKindR n m e0 e1 ds2)) H' := fun H' s => by
            have := k H' s
            rw [q1, Bool.true_and] at this
            exact this
          clear ek
          refine ⟨_, rfl, a, _, _, _, rfl, rfl, ht, atI_nat (j := 0) rfl, .ref a, rfl, 2, rfl, ?_⟩
          dsimp only [tNoPart]
          refine slA_ok ht fun t H1 s1 hr1 => ?_
          have e2 : cutV (w0 :: x1 :: xs2) (some 2) none = xs2 := cut_from (k := 2) h2
          rw [e2] at hr1
          have hs1 := hs.keep s1
          have d01 := keepD s1 _ _ d0
          have d11 := keepD s1 _ _ d1
          have ha1 := keepDs s1 _ _ ha
          have ht1 := Same.sqT s1 ht
          have k1 := k H1 s1
          refine ⟨_, _, rfl, ?_⟩
          refine ⟨_, rfl, e0, .str "one", d01, .str _, hw, shS _, _, rfl, ?_⟩
          have u : isKindR n m e0 e1 ds2 = _ := rfl
          unfold isKindR at k1
          by_cases w1 : isStr e0 "one" = true
          · rw [if_pos w1] at k1
            have w1' : PyData.eqv e0 (.str "one") = true := w1
            rw [w1']
            refine iteT ⟨_, rfl, t, _, rfl, .inr hr1, rfl, ?_⟩
            have el : decide (V.int (xs2.length : Int) = V.int 0) = ds2.isEmpty := by
              have := len_dec ha1 0
              rw [show ((0 : Nat) : Int) = 0 from rfl] at this
              rw [this]
              cases ds2 <;> simp
            rw [el]
            exact k1
          rw [if_neg w1] at k1
          have w1' : PyData.eqv e0 (.str "one") = false := Bool.eq_false_iff.mpr w1
          rw [w1']
          refine iteF ⟨_, rfl, e0, .str "both", d01, .str _, hw, shS _, _, rfl, ?_⟩
          by_cases w2 : isStr e0 "both" = true
          · rw [if_pos w2] at k1
            have w2' : PyData.eqv e0 (.str "both") = true := w2
            rw [w2']
            refine iteT ⟨_, rfl, t, _, rfl, .inr hr1, rfl, _, rfl, ?_⟩
            have el := len_dec ha1 1
            rw [show ((1 : Nat) : Int) = 1 from rfl] at el
            rw [el]
            by_cases h1 : ds2.length = 1
            · rw [decide_eq_true h1]
              obtain ⟨y, xs3, e3, ds3, rfl, rfl, d3, ha3, h4⟩ := DpAll.uncons (n := 0) ha1 (by rw [DpAll.length ha1]; exact h1)
              obtain ⟨rfl, rfl⟩ := DpAll.empty ha3 h4
              refine iteT ⟨_, rfl, .ref t, rfl, t, _, _, _, rfl, rfl, hr1, atI_nat (j := 0) rfl, v, y, e3, n, m, rfl, hs1, d3, _, rfl, and_step2 k1 fun q3 k1 => ?_⟩
              obtain ⟨i, rfl⟩ := isInt_int q1
              obtain ⟨j, rfl⟩ := isInt_int q3
              have ei := dp_int d11
              have ej := dp_int d3
              subst ei ej
              exact ⟨_, rfl, a, _, _, _, rfl, rfl, ht1, atI_nat (j := 1) rfl, .ref t, rfl, t, _, _, _, rfl, rfl, hr1, atI_nat (j := 0) rfl, _, _, rfl, rfl, k1⟩
            · rw [decide_eq_false h1]
              refine iteF ?_
              match ds2, h1, k1 with
              | [], _, k1 => exact k1
              | [_], h, _ => exact absurd rfl h
              | _ :: _ :: _, _, k1 => exact k1
          rw [if_neg w2] at k1
          have w2' : PyData.eqv e0 (.str "both") = false := Bool.eq_false_iff.mpr w2
          rw [w2']
          refine iteF ⟨_, rfl, e0, .str "mark", d01, .str _, hw, shS _, _, rfl, ?_⟩
          by_cases w3 : isStr e0 "mark" = true
          · rw [if_pos w3] at k1
            have w3' : PyData.eqv e0 (.str "mark") = true := w3
            rw [w3']
            exact iteT ⟨_, rfl, _, rfl, v, n, m, t, xs2, ds2, rfl, hs1, hr1, ha1, k1⟩
          rw [if_neg w3] at k1
          have w3' : PyData.eqv e0 (.str "mark") = false := Bool.eq_false_iff.mpr w3
          rw [w3']
          refine iteF ⟨_, rfl, e0, .str "self", d01, .str _, hw, shS _, _, rfl, and_step2 k1 fun _ k1 => ?_⟩
          refine ⟨_, rfl, t, _, rfl, .inr hr1, rfl, _, rfl, ?_⟩
          have el := len_dec ha1 2
          rw [show ((2 : Nat) : Int) = 2 from rfl] at el
          rw [el]
          by_cases h1 : ds2.length = 2
          · rw [decide_eq_true h1]
            obtain ⟨y, xs3, e3, ds3, rfl, rfl, d3, ha3, h4⟩ := DpAll.uncons (n := 1) ha1 (by rw [DpAll.length ha1]; exact h1)
            obtain ⟨z, xs4, e4, ds4, rfl, rfl, d4, ha4, h5⟩ := DpAll.uncons (n := 0) ha3 h4
            obtain ⟨rfl, rfl⟩ := DpAll.empty ha4 h5
            refine iteT ⟨_, rfl, t, _, _, _, rfl, rfl, hr1, atI_nat (j := 0) rfl, _, .ty "bool", _, _, _, rfl, .ty _, tyx d3, kitBo _, _, rfl, and_step2 k1 fun _ k1 => ?_⟩
            exact ⟨_, rfl, _, rfl, t, _, _, _, rfl, rfl, hr1, atI_nat (j := 1) rfl, v, z, e4, n, m, rfl, hs1, d4, k1⟩
          · rw [decide_eq_false h1]
            refine iteF ?_
            match ds2, h1, k1 with
            | [], _, k1 => exact k1
            | [_], _, k1 => exact k1
            | [_, _], h, _ => exact absurd rfl h
            | _ :: _ :: _ :: _, _, k1 => exact k1
        · rw [Bool.eq_false_iff.mpr q1]
          refine iteT ?_
          have := k H (Same.refl H)
          rw [Bool.eq_false_iff.mpr q1, Bool.false_and] at this
          exact this
      · rw [decide_eq_true (by omega)]
        refine iteT (iteT ?_)
        have e : isKind n m (.tuple ds) = false := by
          rw [hl] at h2
          match ds, h2 with
          | [], _ => rfl
          | [_], _ => rfl
          | _ :: _ :: _, h => exact absurd (by simp) h
        rw [e] at k
        exact k H (Same.refl H)
def spKind (K : PySem.W.Frag) : Sp := fun vs H Q _ => ∃ (v x : V) (d : PyData) (n m : Int), vs = [v, x] ∧ Sig K H v n m ∧ 1 ≤ n ∧ n ≤ 4 ∧ 0 ≤ m ∧ m ≤ 2 ∧ Dp K H x d ∧ wordOk d = true ∧ ∀ H', Same H H' → Q (.bl (isKind n m d)) H'
theorem ok_is_kind (T : Txt K mg) : FnOk P w K mg base CX0 5 T.f_is_kind T.d_is_kind ["signature", "value"] (spKind K) := by
  have G_check_signature := ok_check_signature (P := P) (w := w) (base := base) T
  have G__is_kind := ok__is_kind (P := P) (w := w) (base := base) T
  refine T.F_is_kind.ok scis_kind (fun vs H Q E h => ?_) (fun cdv A outer s H vs Q E hr h => ?_)
  · obtain ⟨v, x, d, n, m, rfl, _⟩ := h
    rfl
  · obtain ⟨v, x, d, n, m, rfl, hs, h1, h2, h3, h4, hd, hw, k⟩ := h
    refine ⟨_, (pss_cons (ps_expr (pe_call G_check_signature (hr.mono (by decide)) (by rfl) T.g_check_signature T.F_check_signature.kp T.b_check_signature .nil pass0 (pa_cons (pv 0) pa_nil)))
      (pss_one (ps_ret (pe_call G__is_kind (hr.mono (by decide)) (by rfl) T.g__is_kind T.F__is_kind.kp T.b__is_kind .nil pass0 (pa_cons (pv 0) (pa_cons (pv 1) pa_nil)))))), ?_⟩
    exact ⟨v, rfl, v, n, m, rfl, hs, h1, h2, h3, h4, v, rfl, x, rfl, v, x, d, n, m, rfl, hs, hd, hw, k⟩
end
/-! ### the law's own tools -/
def Ext (p : Addr) (H H' : Hp) : Prop := ∀ b o, b ≠ p → H b = some o → H' b = some o
def Strm (H : Hp) (p : Addr) : Prop := ∃ (l : Addr) (ns : List Int) (c k : Int), H p = some (.lst [.ref l, .int c, .int k]) ∧ H l = some (.lst (ns.map V.int)) ∧ 0 ≤ c ∧ 0 ≤ k
theorem Ext.refl (p : Addr) (H : Hp) : Ext p H H := fun _ _ _ h => h
theorem Ext.trans {p : Addr} {H H1 H2 : Hp} (a : Ext p H H1) (b : Ext p H1 H2) : Ext p H H2 := fun c o n h => b c o n (a c o n h)
theorem Same.ext {p : Addr} {H H' : Hp} (s : Same H H') : Ext p H H' := fun b o _ h => s b o h
theorem Strm.keep {p : Addr} {H H' : Hp} (s : Same H H') (h : Strm H p) : Strm H' p := by
  obtain ⟨l, ns, c, k, h1, h2, h3⟩ := h
  exact ⟨l, ns, c, k, s _ _ h1, s _ _ h2, h3⟩
theorem Ext.sqT {K : PySem.W.Frag} {p a : Addr} {H H' : Hp} {xs : List V} (e : Ext p H H') (st : Strm H p) (h : SqT K H a xs) : SqT K H' a xs := by
  obtain ⟨l, ns, c, k, h1, _⟩ := st
  rcases h with (h | ⟨o, h⟩) | h
  · exact .inl (.inl (e _ _ (ne_of h h1 (by intro z; cases z)) h))
  · exact .inl (.inr ⟨o, e _ _ (ne_of h h1 (by intro z; cases z)) h⟩)
  · exact .inr h
theorem Ext.sig {K : PySem.W.Frag} {p : Addr} {H H' : Hp} {v : V} {n m : Int} (e : Ext p H H') (st : Strm H p) (h : Sig K H v n m) : Sig K H' v n m := by
  obtain ⟨a, rfl, h⟩ := h
  exact ⟨a, rfl, e.sqT st h⟩
section
variable {P : Program} {w : World} {K : PySem.W.Frag} {mg : Str → Option Value} {base : Heap}
def spStream (K : PySem.W.Frag) : Sp := fun vs H Q _ => ∃ (a : Addr) (ns : List Int), vs = [.ref a] ∧ SqL K H a (ns.map V.int) ∧ ∀ H' p, Same H H' → Strm H' p → Q (.ref p) H'
theorem ok__law_stream (T : Txt K mg) : FnOk P w K mg base CX0 1 T.f__law_stream T.d__law_stream ["script"] (spStream K) := by
  refine T.F__law_stream.ok sc_law_stream (fun vs H Q E h => ?_) (fun cdv A outer s H vs Q E hr h => ?_)
  · obtain ⟨a, ns, rfl, _⟩ := h
    rfl
  · obtain ⟨a, ns, rfl, hS, k⟩ := h
    refine ⟨_, (pss_one (ps_ret (pe_lst (pa_cons (pe_callTy call_list_of (by rfl) T.n_list (by decide +kernel) (pa_cons (pv 0) pa_nil)) (pa_cons pe_int (pa_cons pe_int pa_nil)))))), ?_⟩
    refine ⟨_, rfl, a, _, rfl, .inl hS, fun l nl => ⟨by show 3 ≤ sizeLine; decide, fun p np => k _ _ ((same_upd nl).trans (same_upd np)) ⟨l, ns, 0, 0, upd_same, ?_, Int.le_refl _, Int.le_refl _⟩⟩⟩
    have nlp : l ≠ p := fun e => by
      rw [← e, upd_same] at np
      cases np
    rw [upd_ne nlp, upd_same]
def spNext (K : PySem.W.Frag) : Sp := fun vs H Q _ => ∃ (p : Addr) (m : Int), vs = [.ref p, .int m] ∧ Strm H p ∧ 0 < m ∧ m < 1073741824 ∧ ∀ H' d, Ext p H H' → Strm H' p → 0 ≤ d → d < m → Q (.int d) H'
theorem ok__law_next (T : Txt K mg) : FnOk P w K mg base CX0 1 T.f__law_next T.d__law_next ["stream", "many"] (spNext K) := by
  refine T.F__law_next.ok sc_law_next (fun vs H Q E h => ?_) (fun cdv A outer s H vs Q E hr h => ?_)
  · obtain ⟨p, m, rfl, _⟩ := h
    rfl
  · obtain ⟨p, m, rfl, ⟨l, ns, c, i, hp, hl, hc, hi⟩, hm, hm2, k⟩ := h
    have nlp : l ≠ p := fun e => by
      rw [e, hp] at hl
      have z := HO.lst.inj (Option.some.inj hl)
      cases ns with
      | nil => cases z
      | cons _ _ =>
        rw [List.map_cons] at z
        injection z with z1 _
        cases z1
    refine ⟨_, (pss_cut (ps_if (pt_cmpR op_eq (pe_ix ix_list (pv 0) pe_int (fun _ _ => rfl)) pe_int (nomark _)) (pss_cons (ps_set (i := 2) sc_law_next.nd rfl (Or.inl rfl) (pe_ix ix_list (pv 0) pe_int (fun _ _ => rfl)))
      (pss_cons (ps_set (i := 3) sc_law_next.nd rfl (Or.inl rfl) (pe_op op_add pe_int (pv 2)))
      (pss_cut (ps_if (pt_cmpR op_lt (pv 2) (pe_callB call_len_seq (by rfl) T.n_len (by decide +kernel) (pa_cons (pe_ix ix_list (pv 0) pe_int (fun _ _ => rfl)) pa_nil)) (nomark _)) (pss_one (ps_set (i := 3) sc_law_next.nd rfl (Or.inl rfl) (pe_callB call_abs (by rfl) T.n_abs (by decide +kernel) (pa_cons (pe_ix ix_list (pe_ix ix_list (pv 0) pe_int (fun _ _ => rfl)) (pv 2) (fun _ _ => rfl)) pa_nil)))) pss_nil)
      (pss_cut (ps_if (pt_cmpR op_lt (pv 3) (pe_op op_pow pe_int pe_int) (nomark _)) (pss_cons (ps_set (i := 3) sc_law_next.nd rfl (Or.inl rfl) (pe_op op_mod (pe_callTy call_int1 (by rfl) T.n_int (by decide +kernel) (pa_cons (pe_op op_add (pe_op op_add (pe_op op_mul (pv 3) pe_int) (pe_op op_mul (pv 2) pe_int)) pe_int) pa_nil)) pe_int))
      (pss_one (ps_set (i := 3) sc_law_next.nd rfl (Or.inl rfl) (pe_op op_add (pe_op op_mul (pe_op op_mod (pe_callTy call_int1 (by rfl) T.n_int (by decide +kernel) (pa_cons (pe_op op_add (pe_op op_mul (pv 3) pe_int) pe_int) pa_nil)) pe_int) pe_int) (pv 3))))) pss_nil)
      (pss_cons (ps_asg (pv 3) (pg_sub (pv 0) pe_int set_list))
      (pss_one (ps_asg (pe_op op_add (pv 2) pe_int) (pg_sub (pv 0) pe_int set_list)))))))) pss_nil)
      (pss_cons (ps_set (i := 4) sc_law_next.nd rfl (Or.inl rfl) (pe_op op_mod (pe_callTy call_int1 (by rfl) T.n_int (by decide +kernel) (pa_cons (pe_ix ix_list (pv 0) pe_int (fun _ _ => rfl)) pa_nil)) (pv 1)))
      (pss_cons (ps_asg (pe_op op_fdiv (pe_ix ix_list (pv 0) pe_int (fun _ _ => rfl)) (pv 1)) (pg_sub (pv 0) pe_int set_list))
      (pss_one (ps_ret (pv 4)))))), ?_⟩
    refine ⟨fun σ' H' => ∃ y z c i, σ' = [some (.ref p), some (.int m), y, z, none] ∧ Ext p H H' ∧ H' p = some (.lst [.ref l, .int c, .int i]) ∧ H' l = some (.lst (ns.map V.int)) ∧ 0 ≤ c ∧ 0 ≤ i, ?_, ?_⟩
    · refine ⟨_, rfl, p, _, _, _, rfl, rfl, .of hp, atI_nat (j := 1) rfl, rfl, _, rfl, ite2 (fun _ => ?_) (fun _ => ⟨none, none, c, i, rfl, Ext.refl _ _, hp, hl, hc, hi⟩)⟩
      refine ⟨_, rfl, p, _, _, _, rfl, rfl, .of hp, atI_nat (j := 2) rfl, .int i, rfl, 7, i, rfl, rfl, ?_⟩
      refine ⟨fun σ' H' => ∃ c1, σ' = [some (.ref p), some (.int m), some (.int i), some (.int c1), none] ∧ 0 ≤ c1 ∧ H = H', ?_, ?_⟩
      · refine ⟨_, rfl, _, rfl, p, _, _, _, rfl, rfl, .of hp, atI_nat (j := 0) rfl, l, _, rfl, .inl (.of hl), i, _, rfl, rfl, _, rfl, ite2 (fun e => ?_) (fun _ => ⟨7 + i, rfl, by omega, rfl⟩)⟩
        have e1 := of_decide_eq_true e
        rw [List.length_map] at e1
        obtain ⟨j, rfl⟩ := Int.eq_ofNat_of_zero_le hi
        have hj : j < ns.length := by omega
        have hat : atI (ns.map V.int) (j : Int) = some (.int ns[j]) := atI_nat (by rw [List.getElem?_map, List.getElem?_eq_getElem hj]; rfl)
        exact ⟨_, rfl, p, _, _, _, rfl, rfl, .of hp, atI_nat (j := 0) rfl, _, rfl, l, _, _, _, rfl, rfl, .of hl, hat, _, rfl, _, rfl, by split <;> omega, rfl⟩
      · rintro _ _ ⟨c1, rfl, h1, rfl⟩
        refine ⟨fun σ' H' => ∃ c1, σ' = [some (.ref p), some (.int m), some (.int i), some (.int c1), none] ∧ 0 ≤ c1 ∧ H = H', ?_, ?_⟩
        · refine ⟨_, rfl, 10, 18, rfl, rfl, by unfold CPow; decide, _, _, rfl, rfl, _, rfl, ite2 (fun _ => ?_) (fun _ => ⟨c1, rfl, h1, rfl⟩)⟩
          refine ⟨_, rfl, c1, 48271, rfl, rfl, .inr (by decide), _, rfl, i, 69621, rfl, rfl, .inr (by decide), _, _, rfl, rfl, _, _, rfl, rfl, .inl ⟨_, rfl, _, _, rfl, rfl, (by show (0 : Int) < 2147483647; decide), ?_⟩⟩
          refine ⟨_, rfl, _, 16807, rfl, rfl, .inr (by decide), _, _, rfl, rfl, .inl ⟨_, rfl, _, _, rfl, rfl, (by show (0 : Int) < 2147483647; decide), _, _, rfl, rfl, .inr (by decide), _, rfl, _, _, rfl, rfl, _, rfl, ?_, rfl⟩⟩
          omega
        · rintro _ _ ⟨c2, rfl, h2, rfl⟩
          refine ⟨_, rfl, _, rfl, p, _, 1, 1, rfl, rfl, hp, rfl, _, rfl, i, 1, rfl, rfl, _, rfl, p, _, 2, 2, rfl, rfl, upd_same, rfl, _, _, c2, i + 1, rfl, fun b o n e => ?_, ?_, ?_, h2, by omega⟩
          · rw [upd_ne n, upd_ne n]
            exact e
          · rw [upd_same]
            rfl
          · rw [upd_ne nlp, upd_ne nlp]
            exact hl
    · rintro _ H1 ⟨y, z, c, i, rfl, ex, hp, hl, hc, hi⟩
      refine ⟨_, rfl, p, _, _, _, rfl, rfl, .of hp, atI_nat (j := 1) rfl, .inl ⟨_, rfl, _, rfl, _, _, rfl, rfl, hm, ?_⟩⟩
      refine ⟨_, rfl, p, _, _, _, rfl, rfl, .of hp, atI_nat (j := 1) rfl, _, rfl, _, _, rfl, rfl, ⟨hm, hm2⟩, _, rfl, p, _, 1, 1, rfl, rfl, hp, rfl, _, rfl, ?_⟩
      refine k _ _ (fun b o n e => ?_) ⟨l, ns, c / m, i, ?_, ?_, ?_, hi⟩ (Int.emod_nonneg _ (by omega)) (Int.emod_lt_of_pos _ hm)
      · rw [upd_ne n]
        exact ex _ _ n e
      · rw [upd_same]
        rfl
      · rw [upd_ne nlp]
        exact hl
      · exact Int.ediv_nonneg hc (by omega)
def spIsInteger (K : PySem.W.Frag) : Sp := fun vs H Q _ => ∃ (v : V) (d : PyData), vs = [v] ∧ Dp K H v d ∧ Q (.bl (isI d && !isB d)) H
theorem ok__law_is_integer (T : Txt K mg) : FnOk P w K mg base CX0 1 T.f__law_is_integer T.d__law_is_integer ["actual"] (spIsInteger K) := by
  refine T.F__law_is_integer.ok sc_law_is_integer (fun vs H Q E h => ?_) (fun cdv A outer s H vs Q E hr h => ?_)
  · obtain ⟨v, d, rfl, _⟩ := h
    rfl
  · obtain ⟨v, d, rfl, hd, k⟩ := h
    refine ⟨_, (pss_one (ps_ret (pe_and (pe_callB call_isi (by rfl) T.n_isinstance (by decide +kernel) (pa_cons (pv 0) (pa_cons (pe_bltn (v := .ty "int") (by rfl) T.n_int (by decide +kernel) rfl) pa_nil))) (pe_one (pe_not (pe_callB call_isi (by rfl) T.n_isinstance (by decide +kernel) (pa_cons (pv 0) (pa_cons (pe_bltn (v := .ty "bool") (by rfl) T.n_bool (by decide +kernel) rfl) pa_nil)))))))), ?_⟩
    refine ⟨_, rfl, _, .ty "int", _, _, _, rfl, .ty _, tyx hd, kitI _, _, rfl, and_step2 k fun _ k => ?_⟩
    exact ⟨_, rfl, _, .ty "bool", _, _, _, rfl, .ty _, tyx hd, kitBo _, _, rfl, k⟩
end
section
variable {X : Cx}
theorem kq_ix (K : PySem.W.Frag) (h : X.K = K) : IxR X (rIx K) := h ▸ ix_seq
theorem kq_ixL (K : PySem.W.Frag) (h : X.K = K) : IxR X (rIxL K) := h ▸ ix_list
theorem kq_ixT (K : PySem.W.Frag) (h : X.K = K) : IxR X (rIxT K) := h ▸ ix_tup
theorem kq_in (K : PySem.W.Frag) (h : X.K = K) : OpR X (compareOp .In) (rIn K false) := h ▸ op_in_seq
theorem kq_notIn (K : PySem.W.Frag) (h : X.K = K) : OpR X (compareOp .NotIn) (rIn K true) := h ▸ op_notIn_seq
theorem kq_len (K : PySem.W.Frag) (h : X.K = K) : CallR X (.builtin "len") (fun xs H Q => ∃ p ys, xs = [.ref p] ∧ (SqL K H p ys ∨ SqT K H p ys) ∧ Q (.int ys.length) H) := h ▸ call_len_seq
theorem kq_slA (K : PySem.W.Frag) (h : X.K = K) : SlR X (rSlA K) := h ▸ sl_tupA
theorem kq_catA (K : PySem.W.Frag) (h : X.K = K) : OpR X (binaryOp .Add) (rCatA K) := h ▸ op_catA
theorem kq_isi (K : PySem.W.Frag) (h : X.K = K) : CallR X (.builtin "isinstance") (rIsi K) := h ▸ call_isi
theorem kq_eqD (K : PySem.W.Frag) (h : X.K = K) (hu : X.A.units + 64 < cLine) : OpR X (compareOp .Eq) (rEqD K) := h ▸ op_eqD hu
theorem kq_neD (K : PySem.W.Frag) (h : X.K = K) (hu : X.A.units + 64 < cLine) : OpR X (compareOp .NotEq) (rNeD K) := h ▸ op_neD hu
end
section
variable {K : PySem.W.Frag}
theorem DpAll.get {H : Hp} : ∀ {xs : List V} {ds : List PyData} {i : Nat} {d : PyData}, DpAll K H xs ds → ds[i]? = some d → ∃ x, xs[i]? = some x ∧ Dp K H x d
  | _, _, _, _, .nil, e => nomatch e
  | _, _, 0, _, .cons h _, e => by
    have e1 := Option.some.inj e
    subst e1
    exact ⟨_, rfl, h⟩
  | _, _, i + 1, _, .cons _ t, e => by
    obtain ⟨x, h1, h2⟩ := DpAll.get (i := i) t (by simpa using e)
    exact ⟨x, by simpa using h1, h2⟩
/-- data of at most so many levels, all lists and tuples short -/
def dep : Nat → PyData → Bool
  | 0, _ => false
  | n + 1, .list ds => decide (ds.length ≤ 1000) && ds.all (dep n)
  | n + 1, .tuple ds => decide (ds.length ≤ 1000) && ds.all (dep n)
  | _ + 1, .dict _ => false
  | _ + 1, _ => true
theorem ixL {H : Hp} {a : Addr} {xs : List V} {i : Int} {v : V} {Q : VK} (h : SqL K H a xs) (e : atI xs i = some v) (q : Q v H) : rIx K (.ref a) (.int i) H Q := .inl ⟨a, xs, i, v, rfl, rfl, h, e, q⟩
theorem ixT {H : Hp} {a : Addr} {xs : List V} {i : Int} {v : V} {Q : VK} (h : SqT K H a xs) (e : atI xs i = some v) (q : Q v H) : rIx K (.ref a) (.int i) H Q := .inr (.inl ⟨a, xs, i, v, rfl, rfl, h, e, q⟩)
/-! displays: what comes is the data, and what stood stands -/
def DE (K : PySem.W.Frag) (σ : St) (H : Hp) (te : TE) (d : PyData) : Prop := ∀ H1, Same H H1 → ∀ Q : VK, (∀ v H2, Same H1 H2 → Dp K H2 v d → Q v H2) → te σ H1 Q
def DA (K : PySem.W.Frag) (σ : St) (H : Hp) (ta : TA) (ds : List PyData) : Prop := ∀ H1, Same H H1 → ∀ Q : List V → Hp → Prop, (∀ vs H2, Same H1 H2 → DpAll K H2 vs ds → Q vs H2) → ta σ H1 Q
section
variable {σ : St} {H : Hp} {te : TE} {ta : TA} {d : PyData} {ds : List PyData} {v : V} {i : Nat}
theorem de_int {z : Int} : DE K σ H (tC (.int z)) (.int z) := fun _ _ _ k => k _ _ (Same.refl _) (.int z)
theorem de_neg {z : Int} : DE K σ H (tUn (rU fun i => .int (-i)) (tC (.int z))) (.int (-z)) := fun _ _ _ k => ⟨z, rfl, k _ _ (Same.refl _) (.int (-z))⟩
theorem de_bl {b : Bool} : DE K σ H (tC (.bl b)) (.bool b) := fun _ _ _ k => k _ _ (Same.refl _) (.bl b)
theorem de_str {x : Str} : DE K σ H (tC (.str x)) (.str x) := fun _ _ _ k => k _ _ (Same.refl _) (.str x)
theorem de_non : DE K σ H (tC .non) .none := fun _ _ _ k => k _ _ (Same.refl _) .non
theorem de_var (e : σ[i]? = some (some v)) (h : Dp K H v d) : DE K σ H (tVar i) d := fun _ s _ k => ⟨v, e, k _ _ (Same.refl _) (keepD s _ _ h)⟩
theorem da_nil : DA K σ H tNil [] := fun _ _ _ k => k _ _ (Same.refl _) .nil
theorem da_cons (h : DE K σ H te d) (t : DA K σ H ta ds) : DA K σ H (tCons te ta) (d :: ds) := fun H1 s Q k =>
  h H1 s _ fun v H2 s2 hv => t H2 (s.trans s2) _ fun vs H3 s3 ha => k _ _ (s2.trans s3) (.cons (keepD s3 _ _ hv) ha)
theorem de_tup (h : DA K σ H ta ds) (hl : ds.length ≤ 1000 := by first | decide | (simp only [List.length_cons, List.length_nil]; decide)) : DE K σ H (tTup ta) (.tuple ds) := fun H1 s Q k =>
  h H1 s _ fun vs H2 s2 ha => ⟨small (by rw [DpAll.length ha]; exact hl), fun p np => k _ _ (s2.trans (same_upd np)) (.tup (.of upd_same) (keepDs (same_upd np) _ _ ha))⟩
theorem de_lst (h : DA K σ H ta ds) (hl : ds.length ≤ 1000 := by first | decide | (simp only [List.length_cons, List.length_nil]; decide)) : DE K σ H (tLst ta) (.list ds) := fun H1 s Q k =>
  h H1 s _ fun vs H2 s2 ha => ⟨small (by rw [DpAll.length ha]; exact hl), fun p np => k _ _ (s2.trans (same_upd np)) (.lst (.of upd_same) (keepDs (same_upd np) _ _ ha))⟩
/-- a list that may be written: its place -/
theorem dl_lst (h : DA K σ H ta ds) (Q : VK) (k : ∀ p vs H2, Same H H2 → H2 p = some (.lst vs) → DpAll K H2 vs ds → Q (.ref p) H2) (hl : ds.length ≤ 1000 := by first | decide | (simp only [List.length_cons, List.length_nil]; decide)) : tLst ta σ H Q :=
  h H (Same.refl _) _ fun vs H2 s2 ha => ⟨small (by rw [DpAll.length ha]; exact hl), fun p np => k _ _ _ (s2.trans (same_upd np)) upd_same (keepDs (same_upd np) _ _ ha)⟩
theorem DpAll.append {H : Hp} : ∀ {xs ys : List V} {ds es : List PyData}, DpAll K H xs ds → DpAll K H ys es → DpAll K H (xs ++ ys) (ds ++ es)
  | _, _, _, _, .nil, h => h
  | _, _, _, _, .cons h t, u => .cons h (DpAll.append t u)
theorem DpAll.take {H : Hp} : ∀ {xs : List V} {ds : List PyData} (n : Nat), DpAll K H xs ds → DpAll K H (xs.take n) (ds.take n)
  | _, _, 0, _ => by
    rw [List.take_zero, List.take_zero]
    exact .nil
  | _, _, _ + 1, .nil => .nil
  | _, _, n + 1, .cons h t => .cons h (DpAll.take n t)
theorem DpAll.drop {H : Hp} : ∀ {xs : List V} {ds : List PyData} (n : Nat), DpAll K H xs ds → DpAll K H (xs.drop n) (ds.drop n)
  | _, _, 0, h => h
  | _, _, _ + 1, .nil => .nil
  | _, _, n + 1, .cons _ t => DpAll.drop n t
theorem cat_ok {a b : Addr} {xs ys : List V} {Q : VK} (h1 : H a = some (.lst xs)) (h2 : H b = some (.lst ys)) (hl : xs.length + ys.length ≤ sizeLine) (q : ∀ p H', Same H H' → H' p = some (.lst (xs ++ ys)) → Q (.ref p) H') : rCat (.ref a) (.ref b) H Q :=
  ⟨a, b, xs, ys, rfl, rfl, h1, h2, hl, fun p np => q _ _ (same_upd np) upd_same⟩
end
end
section
variable {P : Program} {w : World} {K : PySem.W.Frag} {mg : Str → Option Value} {base : Heap}
def spEqual (n : Nat) (K : PySem.W.Frag) : Sp := fun vs H Q _ => ∃ (v u : V) (d : PyData), vs = [v, u] ∧ Dp K H v d ∧ Dp K H u d ∧ dep n d = true ∧ ∀ H', Same H H' → Q (.bl true) H'
theorem dself {v : V} {H : Hp} {Q : VK} (k : Q (.bl true) H) : Q (.bl (decide (v = v))) H := by
  rw [decide_eq_true rfl]
  exact k
theorem ok__law_equal (T : Txt K mg) : ∀ n, FnOk P w K mg base CX0 (n + 1) T.f__law_equal T.d__law_equal ["actual", "due"] (spEqual n K) := by
  have G__law_is_integer := ok__law_is_integer (P := P) (w := w) (base := base) T
  intro n
  induction n with
  | zero =>
    refine ⟨fun vs H Q E h => ?_, fun A outer s H args us vs Q E hr he hb hv h => ?_⟩
    · obtain ⟨v, u, d, rfl, _⟩ := h
      rfl
    · obtain ⟨v, u, d, _, _, _, h, _⟩ := h
      exact absurd h (by unfold dep; decide)
  | succ n ih =>
    have G__law_equal := ih
    refine T.F__law_equal.ok sc_law_equal (fun vs H Q E h => ?_) (fun cdv A outer s H vs Q E hr h => ?_)
    · obtain ⟨v, u, d, rfl, _⟩ := h
      rfl
    · obtain ⟨v, u, d, rfl, hv, hu, hn, k⟩ := h
      refine ⟨_, (pss_cons (ps_if (pt_cmpR op_isN (pv 1) pe_non (nomark _)) (pss_one (ps_ret (pe_cmpR op_isN (pv 0) pe_non (nomark _)))) pss_nil)
      (pss_cons (ps_if (pt_val (pe_callB call_isi (by rfl) T.n_isinstance (by decide +kernel) (pa_cons (pv 1) (pa_cons (pe_bltn (v := .ty "bool") (by rfl) T.n_bool (by decide +kernel) rfl) pa_nil)))) (pss_one (ps_ret (pe_and (pe_callB call_isi (by rfl) T.n_isinstance (by decide +kernel) (pa_cons (pv 0) (pa_cons (pe_bltn (v := .ty "bool") (by rfl) T.n_bool (by decide +kernel) rfl) pa_nil))) (pe_one (pe_cmpR op_eq (pv 0) (pv 1) (nomark _)))))) pss_nil)
      (pss_cons (ps_if (pt_val (pe_callB call_isi (by rfl) T.n_isinstance (by decide +kernel) (pa_cons (pv 1) (pa_cons (pe_bltn (v := .ty "int") (by rfl) T.n_int (by decide +kernel) rfl) pa_nil)))) (pss_one (ps_ret (pe_and (pe_call G__law_is_integer (hr.mono (by omega)) (by rfl) T.g__law_is_integer T.F__law_is_integer.kp T.b__law_is_integer .nil pass0 (pa_cons (pv 0) pa_nil)) (pe_one (pe_cmpR op_eq (pv 0) (pv 1) (nomark _)))))) pss_nil)
      (pss_cons (ps_if (pt_val (pe_callB call_isi (by rfl) T.n_isinstance (by decide +kernel) (pa_cons (pv 1) (pa_cons (pe_bltn (v := .ty "str") (by rfl) T.n_str (by decide +kernel) rfl) pa_nil)))) (pss_one (ps_ret (pe_and (pe_callB call_isi (by rfl) T.n_isinstance (by decide +kernel) (pa_cons (pv 0) (pa_cons (pe_bltn (v := .ty "str") (by rfl) T.n_str (by decide +kernel) rfl) pa_nil))) (pe_one (pe_cmpR op_eq (pv 0) (pv 1) (nomark _)))))) pss_nil)
      (pss_cons (ps_if (PW.pt (pw_and (pt_val (pe_callB call_isi (by rfl) T.n_isinstance (by decide +kernel) (pa_cons (pv 1) (pa_cons (pe_bltn (v := .ty "tuple") (by rfl) T.n_tuple (by decide +kernel) rfl) pa_nil)))) (pw_and1 (pt_not (pt_val (pe_callB call_isi (by rfl) T.n_isinstance (by decide +kernel) (pa_cons (pv 0) (pa_cons (pe_bltn (v := .ty "tuple") (by rfl) T.n_tuple (by decide +kernel) rfl) pa_nil)))))))) (pss_one (ps_ret pe_bl)) pss_nil)
      (pss_cons (ps_if (PW.pt (pw_and (pt_val (pe_callB call_isi (by rfl) T.n_isinstance (by decide +kernel) (pa_cons (pv 1) (pa_cons (pe_bltn (v := .ty "list") (by rfl) T.n_list (by decide +kernel) rfl) pa_nil)))) (pw_and1 (pt_not (pt_val (pe_callB call_isi (by rfl) T.n_isinstance (by decide +kernel) (pa_cons (pv 0) (pa_cons (pe_bltn (v := .ty "list") (by rfl) T.n_list (by decide +kernel) rfl) pa_nil)))))))) (pss_one (ps_ret pe_bl)) pss_nil)
      (pss_cons (ps_if (pt_cmpR op_ne (pe_callB call_len_seq (by rfl) T.n_len (by decide +kernel) (pa_cons (pv 0) pa_nil)) (pe_callB call_len_seq (by rfl) T.n_len (by decide +kernel) (pa_cons (pv 1) pa_nil)) (nomark _)) (pss_one (ps_ret pe_bl)) pss_nil)
      (pss_one (ps_ret (pe_callB (cr_all rfl) (by rfl) T.n_all (by decide +kernel) (pa_cons (pe_lc (own := [("at", 2)]) (g := gName 2) (tt := tYes) rfl sc_law_equal.nd (pi_range1 (by rfl) T.n_range (pa_cons (pe_callB call_len_seq (by rfl) T.n_len (by decide +kernel) (pa_cons (pv 1) pa_nil)) pa_nil)) (blkOk_by (own := [("at", 2)]) (N := N_law_equal) (sc := defScope s_law_equal) (by decide +kernel)) (fun _ _ _ _ _ => pg_name (i := 2) sc_law_equal.nd rfl (Or.inl rfl)) (fun _ _ _ _ _ => pts_nil) (fun _ _ _ _ _ => (pe_call G__law_equal (hr.mono (by omega)) (by rfl) T.g__law_equal T.F__law_equal.kp T.b__law_equal .nil pass0 (pa_cons (pe_ix (kq_ix K rfl) (pv 0) (pv 2) (fun _ _ => rfl)) (pa_cons (pe_ix (kq_ix K rfl) (pv 1) (pv 2) (fun _ _ => rfl)) pa_nil))))) pa_nil))))))))))), ?_⟩
      have lists : ∀ (a b : Addr) (xs ys : List V) (ds : List PyData), DpAll K H xs ds → DpAll K H ys ds → ds.length ≤ 1000 → ds.all (dep n) = true → (SqL K H a xs ∧ SqL K H b ys ∨ SqT K H a xs ∧ SqT K H b ys) →
          (SqL K H b ys ∨ SqT K H b ys) ∧ (SqL K H a xs ∨ SqT K H a xs) ∧ xs.length = ds.length ∧ ys.length = ds.length ∧ ∀ (i : Nat) (H1 : Hp), i < ds.length → Same H H1 → ∃ x y d, atI xs (0 + (i : Int)) = some x ∧ atI ys (0 + (i : Int)) = some y ∧ Dp K H1 x d ∧ Dp K H1 y d ∧ dep n d = true ∧
            (∀ Q : VK, Q x H1 → rIx K (.ref a) (.int (0 + (i : Int))) H1 Q) ∧ (∀ Q : VK, Q y H1 → rIx K (.ref b) (.int (0 + (i : Int))) H1 Q) := by
        intro a b xs ys ds hx hy hl hd hq
        refine ⟨hq.elim (fun q => .inl q.2) fun q => .inr q.2, hq.elim (fun q => .inl q.1) fun q => .inr q.1, DpAll.length hx, DpAll.length hy, fun i H1 hi s1 => ?_⟩
        have e := List.getElem?_eq_getElem hi
        obtain ⟨x, ex, dx⟩ := DpAll.get hx e
        obtain ⟨y, ey, dy⟩ := DpAll.get hy e
        have ax : atI xs (0 + (i : Int)) = some x := at_of (by omega) ex
        have ay : atI ys (0 + (i : Int)) = some y := at_of (by omega) ey
        refine ⟨x, y, ds[i], ax, ay, keepD s1 _ _ dx, keepD s1 _ _ dy, List.all_eq_true.mp hd _ (List.getElem_mem hi), fun Q q => ?_, fun Q q => ?_⟩
        · rcases hq with ⟨h1, _⟩ | ⟨h1, _⟩
          · exact ixL (s1.seq h1) ax q
          · exact ixT (Same.sqT s1 h1) ax q
        · rcases hq with ⟨_, h1⟩ | ⟨_, h1⟩
          · exact ixL (s1.seq h1) ay q
          · exact ixT (Same.sqT s1 h1) ay q
      cases hu with
      | non =>
        cases hv with
        | non => exact ⟨_, rfl, rfl, _, rfl, iteT ⟨_, rfl, rfl, k _ (Same.refl _)⟩⟩
      | bl b =>
        cases hv with
        | bl =>
          refine ⟨_, rfl, rfl, _, rfl, iteF ?_⟩
          refine ⟨_, rfl, _, .ty "bool", _, _, _, rfl, .ty _, tyx (.bl b), kitBo _, _, rfl, iteT ?_⟩
          exact ⟨_, rfl, _, .ty "bool", _, _, _, rfl, .ty _, tyx (.bl b), kitBo _, _, rfl, iteT ⟨_, rfl, _, rfl, rfl, dself (k _ (Same.refl _))⟩⟩
      | int i =>
        cases hv with
        | int =>
          refine ⟨_, rfl, rfl, _, rfl, iteF ?_⟩
          refine ⟨_, rfl, _, .ty "bool", _, _, _, rfl, .ty _, tyx (.int i), kitBo _, _, rfl, iteF ?_⟩
          refine ⟨_, rfl, _, .ty "int", _, _, _, rfl, .ty _, tyx (.int i), kitI _, _, rfl, iteT ?_⟩
          exact ⟨_, rfl, _, _, rfl, .int i, _, rfl, iteT ⟨_, rfl, _, rfl, rfl, dself (k _ (Same.refl _))⟩⟩
      | str x =>
        cases hv with
        | str =>
          refine ⟨_, rfl, rfl, _, rfl, iteF ?_⟩
          refine ⟨_, rfl, _, .ty "bool", _, _, _, rfl, .ty _, tyx (.str x), kitBo _, _, rfl, iteF ?_⟩
          refine ⟨_, rfl, _, .ty "int", _, _, _, rfl, .ty _, tyx (.str x), kitI _, _, rfl, iteF ?_⟩
          refine ⟨_, rfl, _, .ty "str", _, _, _, rfl, .ty _, tyx (.str x), kitS _, _, rfl, iteT ?_⟩
          exact ⟨_, rfl, _, .ty "str", _, _, _, rfl, .ty _, tyx (.str x), kitS _, _, rfl, iteT ⟨_, rfl, _, rfl, rfl, dself (k _ (Same.refl _))⟩⟩
      | @lst b ys ds hb hy =>
        cases hv with
        | @lst a xs _ ha hx =>
          have hn2 : (decide (ds.length ≤ 1000) && ds.all (dep n)) = true := hn
          rw [Bool.and_eq_true] at hn2
          have hl := of_decide_eq_true hn2.1
          obtain ⟨qb, qa, lx, ly, item⟩ := lists a b xs ys ds hx hy hl hn2.2 (.inl ⟨ha, hb⟩)
          have td := tyx (K := K) (.lst hb hy)
          have ta := tyx (K := K) (.lst ha hx)
          refine ⟨_, rfl, rfl, _, rfl, iteF ?_⟩
          refine ⟨_, rfl, _, .ty "bool", _, _, _, rfl, .ty _, td, kitBo _, _, rfl, iteF ?_⟩
          refine ⟨_, rfl, _, .ty "int", _, _, _, rfl, .ty _, td, kitI _, _, rfl, iteF ?_⟩
          refine ⟨_, rfl, _, .ty "str", _, _, _, rfl, .ty _, td, kitS _, _, rfl, iteF ?_⟩
          refine ⟨_, rfl, _, .ty "tuple", _, _, _, rfl, .ty _, td, kitT _, _, rfl, iteF (iteF ?_)⟩
          refine ⟨_, rfl, _, .ty "list", _, _, _, rfl, .ty _, td, kitL _, _, rfl, iteT ⟨_, rfl, _, .ty "list", _, _, _, rfl, .ty _, ta, kitL _, _, rfl, iteF ?_⟩⟩
          refine ⟨_, rfl, a, xs, rfl, qa, _, rfl, b, ys, rfl, qb, rfl, _, rfl, ?_⟩
          rw [lx, ly, decide_eq_true rfl]
          refine iteF ⟨_, rfl, b, ys, rfl, qb, _, rfl, by omega, by omega, fun D nD => lc_range (lo := 0) (n := ys.length) (fun i H1 => Same H H1 ∧ H1 D = some (.lst (List.replicate i (.bl true)))) ⟨same_upd nD, upd_same⟩ (fun i H1 hi hP => ?_) fun H1 hP => ?_⟩
          · obtain ⟨s1, hD⟩ := hP
            obtain ⟨x, y, d, ax, ay, dx, dy, dn, rx, ry⟩ := item i H1 (by omega) s1
            refine ⟨rfl, _, rfl, _, rfl, rx _ ⟨_, rfl, _, rfl, ry _ ⟨x, y, d, rfl, dx, dy, dn, fun H2 s2 => ⟨_, s2 _ _ hD, ?_, fun b o e => ?_, ?_⟩⟩⟩⟩
            · rw [List.length_replicate]
              exact small1000 (by omega)
            · rw [upd_ne (ne_of_none e nD)]
              exact s2 _ _ (s1 _ _ e)
            · rw [upd_same, List.replicate_succ']
          · obtain ⟨s1, hD⟩ := hP
            have e : List.replicate ys.length (V.bl true) = (List.replicate ys.length true).map V.bl := by rw [List.map_replicate]
            rw [e] at hD
            refine ⟨D, List.replicate ys.length true, rfl, .of hD, ?_⟩
            have e2 : (List.replicate ys.length true).all id = true := by
              rw [List.all_eq_true]
              intro z hz
              rw [List.mem_replicate] at hz
              rw [hz.2]
              rfl
            rw [e2]
            exact k _ s1
      | @tup b ys ds hb hy =>
        cases hv with
        | @tup a xs _ ha hx =>
          have hn2 : (decide (ds.length ≤ 1000) && ds.all (dep n)) = true := hn
          rw [Bool.and_eq_true] at hn2
          have hl := of_decide_eq_true hn2.1
          obtain ⟨qb, qa, lx, ly, item⟩ := lists a b xs ys ds hx hy hl hn2.2 (.inr ⟨ha, hb⟩)
          have td := tyx (K := K) (.tup hb hy)
          have ta := tyx (K := K) (.tup ha hx)
          refine ⟨_, rfl, rfl, _, rfl, iteF ?_⟩
          refine ⟨_, rfl, _, .ty "bool", _, _, _, rfl, .ty _, td, kitBo _, _, rfl, iteF ?_⟩
          refine ⟨_, rfl, _, .ty "int", _, _, _, rfl, .ty _, td, kitI _, _, rfl, iteF ?_⟩
          refine ⟨_, rfl, _, .ty "str", _, _, _, rfl, .ty _, td, kitS _, _, rfl, iteF ?_⟩
          refine ⟨_, rfl, _, .ty "tuple", _, _, _, rfl, .ty _, td, kitT _, _, rfl, iteT ⟨_, rfl, _, .ty "tuple", _, _, _, rfl, .ty _, ta, kitT _, _, rfl, iteF ?_⟩⟩
          refine ⟨_, rfl, _, .ty "list", _, _, _, rfl, .ty _, td, kitL _, _, rfl, iteF (iteF ?_)⟩
          refine ⟨_, rfl, a, xs, rfl, qa, _, rfl, b, ys, rfl, qb, rfl, _, rfl, ?_⟩
          rw [lx, ly, decide_eq_true rfl]
          refine iteF ⟨_, rfl, b, ys, rfl, qb, _, rfl, by omega, by omega, fun D nD => lc_range (lo := 0) (n := ys.length) (fun i H1 => Same H H1 ∧ H1 D = some (.lst (List.replicate i (.bl true)))) ⟨same_upd nD, upd_same⟩ (fun i H1 hi hP => ?_) fun H1 hP => ?_⟩
          · obtain ⟨s1, hD⟩ := hP
            obtain ⟨x, y, d, ax, ay, dx, dy, dn, rx, ry⟩ := item i H1 (by omega) s1
            refine ⟨rfl, _, rfl, _, rfl, rx _ ⟨_, rfl, _, rfl, ry _ ⟨x, y, d, rfl, dx, dy, dn, fun H2 s2 => ⟨_, s2 _ _ hD, ?_, fun b o e => ?_, ?_⟩⟩⟩⟩
            · rw [List.length_replicate]
              exact small1000 (by omega)
            · rw [upd_ne (ne_of_none e nD)]
              exact s2 _ _ (s1 _ _ e)
            · rw [upd_same, List.replicate_succ']
          · obtain ⟨s1, hD⟩ := hP
            have e : List.replicate ys.length (V.bl true) = (List.replicate ys.length true).map V.bl := by rw [List.map_replicate]
            rw [e] at hD
            refine ⟨D, List.replicate ys.length true, rfl, .of hD, ?_⟩
            have e2 : (List.replicate ys.length true).all id = true := by
              rw [List.all_eq_true]
              intro z hz
              rw [List.mem_replicate] at hz
              rw [hz.2]
              rfl
            rw [e2]
            exact k _ s1
end
/-! ### kinds that are drawn -/
inductive Ki where
  | one (x : Int) | both (x y : Int) | self (x : Int) (b : Bool) (v : Int) | mark (x : Int) (b : Bool) (v : Int) (c : Bool) (y : Int)
def Ki.vals : Ki → List V
  | .one x => [.str "one", .int x]
  | .both x y => [.str "both", .int x, .int y]
  | .self x b v => [.str "self", .int x, .bl b, .int v]
  | .mark x b v c y => [.str "mark", .int x, .bl b, .int v, .bl c, .int y]
def Ki.data : Ki → List PyData
  | .one x => [.str "one", .int x]
  | .both x y => [.str "both", .int x, .int y]
  | .self x b v => [.str "self", .int x, .bool b, .int v]
  | .mark x b v c y => [.str "mark", .int x, .bool b, .int v, .bool c, .int y]
def Ki.ok (n m : Int) : Ki → Prop
  | .one x => 0 ≤ x ∧ x < n
  | .both x y => 0 ≤ x ∧ x < y ∧ y < n
  | .self x _ v => 0 ≤ x ∧ x < n ∧ 0 ≤ v ∧ v < m
  | .mark x _ v _ y => 0 ≤ x ∧ x < n ∧ 0 ≤ v ∧ v < m ∧ 0 ≤ y ∧ y < n
theorem Ki.dp (K : PySem.W.Frag) (H : Hp) (ki : Ki) : DpAll K H ki.vals ki.data := by
  cases ki with
  | one x => exact .cons (.str _) (.cons (.int _) .nil)
  | both x y => exact .cons (.str _) (.cons (.int _) (.cons (.int _) .nil))
  | self x b v => exact .cons (.str _) (.cons (.int _) (.cons (.bl _) (.cons (.int _) .nil)))
  | mark x b v c y => exact .cons (.str _) (.cons (.int _) (.cons (.bl _) (.cons (.int _) (.cons (.bl _) (.cons (.int _) .nil)))))
theorem Ki.len (ki : Ki) : 2 ≤ ki.vals.length ∧ ki.vals.length ≤ 6 := by
  cases ki <;> simp [Ki.vals]
theorem w11 : isStr (.str "one") "one" = true := by decide +kernel
theorem w21 : isStr (.str "both") "one" = false := by decide +kernel
theorem w22 : isStr (.str "both") "both" = true := by decide +kernel
theorem w31 : isStr (.str "mark") "one" = false := by decide +kernel
theorem w32 : isStr (.str "mark") "both" = false := by decide +kernel
theorem w33 : isStr (.str "mark") "mark" = true := by decide +kernel
theorem w41 : isStr (.str "self") "one" = false := by decide +kernel
theorem w42 : isStr (.str "self") "both" = false := by decide +kernel
theorem w43 : isStr (.str "self") "mark" = false := by decide +kernel
theorem w44 : isStr (.str "self") "self" = true := by decide +kernel
theorem kOne (n m : Int) (x : PyData) (r : List PyData) : isKind n m (.tuple (.str "one" :: x :: r)) = (isInt x 0 (n - 1) && r.isEmpty) := by
  show (_ && isKindR n m _ _ _) = _
  unfold isKindR
  rw [if_pos w11]
theorem kBoth (n m : Int) (x : PyData) (r : List PyData) : isKind n m (.tuple (.str "both" :: x :: r)) = (isInt x 0 (n - 1) && (match r with | [y] => isInt y 0 (n - 1) && ltD x y | _ => false)) := by
  show (_ && isKindR n m _ _ _) = _
  unfold isKindR
  rw [if_neg (by rw [w21]; decide), if_pos w22]
  all_goals rfl
theorem kMark (n m : Int) (x : PyData) (r : List PyData) : isKind n m (.tuple (.str "mark" :: x :: r)) = (isInt x 0 (n - 1) && isMark n m r) := by
  show (_ && isKindR n m _ _ _) = _
  unfold isKindR
  rw [if_neg (by rw [w31]; decide), if_neg (by rw [w32]; decide), if_pos w33]
theorem kSelf (n m : Int) (x : PyData) (r : List PyData) : isKind n m (.tuple (.str "self" :: x :: r)) = (isInt x 0 (n - 1) && (match r with | [a, b] => isB a && isInt b 0 (m - 1) | _ => false)) := by
  show (_ && isKindR n m _ _ _) = _
  unfold isKindR
  rw [if_neg (by rw [w41]; decide), if_neg (by rw [w42]; decide), if_neg (by rw [w43]; decide), w44, Bool.true_and]
  all_goals rfl
theorem kOther (n m : Int) (w x : PyData) (r : List PyData) (h1 : isStr w "one" = false) (h2 : isStr w "both" = false) (h3 : isStr w "mark" = false) (h4 : isStr w "self" = false) : isKind n m (.tuple (w :: x :: r)) = false := by
  show (_ && isKindR n m _ _ _) = _
  unfold isKindR
  rw [if_neg (by rw [h1]; decide), if_neg (by rw [h2]; decide), if_neg (by rw [h3]; decide), h4, Bool.false_and, Bool.and_false]
theorem inI {i lo hi : Int} (h1 : lo ≤ i) (h2 : i ≤ hi) : isInt (.int i) lo hi = true := by
  show (decide (lo ≤ i) && decide (i ≤ hi)) = true
  rw [decide_eq_true h1, decide_eq_true h2]
  rfl
theorem noI {i lo hi : Int} (h : ¬ (lo ≤ i ∧ i ≤ hi)) : isInt (.int i) lo hi = false := by
  show (decide (lo ≤ i) && decide (i ≤ hi)) = false
  rw [Bool.and_eq_false_iff]
  by_cases h1 : lo ≤ i
  · exact .inr (decide_eq_false fun z => h ⟨h1, z⟩)
  · exact .inl (decide_eq_false h1)
theorem mk4 (n m : Int) (a b c d : PyData) : isMark n m [a, b, c, d] = (isB a && (isInt b 0 (m - 1) && (isB c && isInt d 0 (n - 1)))) := rfl
theorem ki_true {n m : Int} {ki : Ki} (h : ki.ok n m) : isKind n m (.tuple ki.data) = true := by
  cases ki with
  | one x =>
    obtain ⟨h1, h2⟩ := h
    show isKind n m (.tuple (.str "one" :: .int x :: [])) = true
    rw [kOne, inI h1 (by omega)]
    rfl
  | both x y =>
    obtain ⟨h1, h2, h3⟩ := h
    show isKind n m (.tuple (.str "both" :: .int x :: [.int y])) = true
    rw [kBoth, inI h1 (by omega)]
    show (true && (isInt (.int y) 0 (n - 1) && decide (x < y))) = true
    rw [inI (by omega) (by omega), decide_eq_true h2]
    rfl
  | self x b v =>
    obtain ⟨h1, h2, h3, h4⟩ := h
    show isKind n m (.tuple (.str "self" :: .int x :: [.bool b, .int v])) = true
    rw [kSelf, inI h1 (by omega)]
    show (true && (true && isInt (.int v) 0 (m - 1))) = true
    rw [inI h3 (by omega)]
    rfl
  | mark x b v c y =>
    obtain ⟨h1, h2, h3, h4, h5, h6⟩ := h
    show isKind n m (.tuple (.str "mark" :: .int x :: [.bool b, .int v, .bool c, .int y])) = true
    rw [kMark, inI h1 (by omega)]
    show (true && (true && (isInt (.int v) 0 (m - 1) && (true && isInt (.int y) 0 (n - 1))))) = true
    rw [inI h3 (by omega), inI h5 (by omega)]
    rfl
theorem ki_more {n m : Int} (ki : Ki) : isKind n m (.tuple (ki.data ++ [.int 0])) = false := by
  cases ki with
  | one x =>
    show isKind n m (.tuple (.str "one" :: .int x :: [.int 0])) = false
    rw [kOne]
    exact Bool.and_false _
  | both x y =>
    show isKind n m (.tuple (.str "both" :: .int x :: [.int y, .int 0])) = false
    rw [kBoth]
    exact Bool.and_false _
  | self x b v =>
    show isKind n m (.tuple (.str "self" :: .int x :: [.bool b, .int v, .int 0])) = false
    rw [kSelf]
    exact Bool.and_false _
  | mark x b v c y =>
    show isKind n m (.tuple (.str "mark" :: .int x :: [.bool b, .int v, .bool c, .int y, .int 0])) = false
    rw [kMark]
    exact Bool.and_false _
theorem ki_less {n m : Int} (ki : Ki) : isKind n m (.tuple (ki.data.take (ki.vals.length - 1))) = false := by
  cases ki with
  | one x => rfl
  | both x y =>
    show isKind n m (.tuple (.str "both" :: .int x :: [])) = false
    rw [kBoth]
    exact Bool.and_false _
  | self x b v =>
    show isKind n m (.tuple (.str "self" :: .int x :: [.bool b])) = false
    rw [kSelf]
    exact Bool.and_false _
  | mark x b v c y =>
    show isKind n m (.tuple (.str "mark" :: .int x :: [.bool b, .int v, .bool c])) = false
    rw [kMark]
    exact Bool.and_false _
structure Bad (n m : Int) (w : PyData) : Prop where
  i : ∀ k, k ≤ 3 → isInt w 0 k = false
  b : isB w = false
  s1 : isStr w "one" = false
  s2 : isStr w "both" = false
  s3 : isStr w "mark" = false
  s4 : isStr w "self" = false
  sh : SeqAt.shaped w = true
def wrongs : List PyData := [.none, .int (-1), .int 9, .str "x", .tuple []]
theorem bad_all (n m : Int) : ∀ w ∈ wrongs, Bad n m w := by
  intro w hw
  simp only [wrongs, List.mem_cons, List.not_mem_nil, or_false] at hw
  rcases hw with rfl | rfl | rfl | rfl | rfl
  · exact ⟨fun _ _ => rfl, rfl, rfl, rfl, rfl, rfl, shN⟩
  · exact ⟨fun k _ => noI (by omega), rfl, rfl, rfl, rfl, rfl, shI _⟩
  · exact ⟨fun k _ => noI (by omega), rfl, rfl, rfl, rfl, rfl, shI _⟩
  · exact ⟨fun _ _ => rfl, rfl, by decide +kernel, by decide +kernel, by decide +kernel, by decide +kernel, shS _⟩
  · exact ⟨fun _ _ => rfl, rfl, rfl, rfl, rfl, rfl, by decide +kernel⟩
theorem ki_wrong {n m : Int} {ki : Ki} {w : PyData} (hn : n ≤ 4) (hm : m ≤ 2) (B : Bad n m w) (j : Nat) (hj : j < ki.data.length) : isKind n m (.tuple (ki.data.take j ++ [w] ++ ki.data.drop (j + 1))) = false := by
  have i1 := B.i (n - 1) (by omega)
  have i2 := B.i (m - 1) (by omega)
  cases ki with
  | one x =>
    match j, hj with
    | 0, _ => exact kOther n m w _ _ B.s1 B.s2 B.s3 B.s4
    | 1, _ =>
      show isKind n m (.tuple (.str "one" :: w :: [])) = false
      rw [kOne, i1]
      rfl
    | _ + 2, h => exact absurd h (by simp [Ki.data])
  | both x y =>
    match j, hj with
    | 0, _ => exact kOther n m w _ _ B.s1 B.s2 B.s3 B.s4
    | 1, _ =>
      show isKind n m (.tuple (.str "both" :: w :: [.int y])) = false
      rw [kBoth, i1]
      rfl
    | 2, _ =>
      show isKind n m (.tuple (.str "both" :: .int x :: [w])) = false
      rw [kBoth]
      show (_ && (isInt w 0 (n - 1) && _)) = false
      rw [i1, Bool.false_and, Bool.and_false]
    | _ + 3, h => exact absurd h (by simp [Ki.data])
  | self x b v =>
    match j, hj with
    | 0, _ => exact kOther n m w _ _ B.s1 B.s2 B.s3 B.s4
    | 1, _ =>
      show isKind n m (.tuple (.str "self" :: w :: [.bool b, .int v])) = false
      rw [kSelf, i1]
      rfl
    | 2, _ =>
      show isKind n m (.tuple (.str "self" :: .int x :: [w, .int v])) = false
      rw [kSelf]
      show (_ && (isB w && _)) = false
      rw [B.b, Bool.false_and, Bool.and_false]
    | 3, _ =>
      show isKind n m (.tuple (.str "self" :: .int x :: [.bool b, w])) = false
      rw [kSelf]
      show (_ && (_ && isInt w 0 (m - 1))) = false
      rw [i2, Bool.and_false, Bool.and_false]
    | _ + 4, h => exact absurd h (by simp [Ki.data])
  | mark x b v c y =>
    match j, hj with
    | 0, _ => exact kOther n m w _ _ B.s1 B.s2 B.s3 B.s4
    | 1, _ =>
      show isKind n m (.tuple (.str "mark" :: w :: [.bool b, .int v, .bool c, .int y])) = false
      rw [kMark, i1]
      rfl
    | 2, _ =>
      show isKind n m (.tuple (.str "mark" :: .int x :: [w, .int v, .bool c, .int y])) = false
      rw [kMark]
      show (_ && (isB w && _)) = false
      rw [B.b, Bool.false_and, Bool.and_false]
    | 3, _ =>
      show isKind n m (.tuple (.str "mark" :: .int x :: [.bool b, w, .bool c, .int y])) = false
      rw [kMark, mk4, i2, Bool.false_and, Bool.and_false, Bool.and_false]
    | 4, _ =>
      show isKind n m (.tuple (.str "mark" :: .int x :: [.bool b, .int v, w, .int y])) = false
      rw [kMark, mk4, B.b, Bool.false_and, Bool.and_false, Bool.and_false, Bool.and_false]
    | 5, _ =>
      show isKind n m (.tuple (.str "mark" :: .int x :: [.bool b, .int v, .bool c, w])) = false
      rw [kMark, mk4, i1, Bool.and_false, Bool.and_false, Bool.and_false, Bool.and_false]
    | _ + 6, h => exact absurd h (by simp [Ki.data])
def odd1 (n m : Int) : List PyData := [.none, .tuple [], .str "one", .tuple [.str "one", .int n], .tuple [.str "one", .bool true], .tuple [.str "both", .int 0, .int 0], .tuple [.str "both", .int 1, .int 0], .tuple [.str "both", .int 0, .int n], .tuple [.str "self", .int 0, .int 1, .int 0], .tuple [.str "self", .int 0, .bool true, .int m], .tuple [.str "self", .int 0, .bool true, .bool false]]
def odd2 (n m : Int) : List PyData := [.tuple [.str "mark", .int 0, .bool true, .int 0, .int 1, .int 0], .tuple [.str "mark", .int 0, .int 0, .int 0, .bool true, .int 0], .tuple [.str "mark", .int 0, .bool true, .int m, .bool true, .int 0], .tuple [.str "mark", .int 0, .bool true, .int 0, .bool true, .int n], .tuple [.str "mark", .int 0, .bool true, .int 0, .bool true], .tuple [.str "none", .int 0]]
def odd3 (n : Int) : List PyData := [.tuple [.str "one", .int 0, .int 0], .tuple [.str "self", .int n, .bool true, .int 0], .tuple [.str "mark", .int n, .bool true, .int 0, .bool true, .int 0], .tuple [.bool true, .int 0], .tuple [.list [.str "one"], .int 0]]
theorem odd_all {n m : Int} : ∀ d ∈ odd1 n m ++ odd2 n m ++ odd3 n, isKind n m d = false ∧ wordOk d = true := by
  have a := noI (i := n) (lo := 0) (hi := n - 1) (by omega)
  have b := noI (i := m) (lo := 0) (hi := m - 1) (by omega)
  have so : SeqAt.shaped (.str "one") = true := shS _
  have sb : SeqAt.shaped (.str "both") = true := shS _
  have sm : SeqAt.shaped (.str "mark") = true := shS _
  have ss : SeqAt.shaped (.str "self") = true := shS _
  intro d hd
  simp only [odd1, odd2, odd3, List.cons_append, List.nil_append, List.mem_cons, List.not_mem_nil, or_false] at hd
  rcases hd with rfl | rfl | rfl | rfl | rfl | rfl | rfl | rfl | rfl | rfl | rfl | rfl | rfl | rfl | rfl | rfl | rfl | rfl | rfl | rfl | rfl | rfl
  · exact ⟨rfl, rfl⟩
  · exact ⟨rfl, rfl⟩
  · exact ⟨rfl, rfl⟩
  · exact ⟨by rw [kOne, a]; rfl, so⟩
  · exact ⟨by rw [kOne]; rfl, so⟩
  · refine ⟨?_, sb⟩
    rw [kBoth]
    show (_ && (_ && false)) = false
    rw [Bool.and_false, Bool.and_false]
  · refine ⟨?_, sb⟩
    rw [kBoth]
    show (_ && (_ && false)) = false
    rw [Bool.and_false, Bool.and_false]
  · refine ⟨?_, sb⟩
    rw [kBoth]
    show (_ && (isInt (.int n) 0 (n - 1) && _)) = false
    rw [a, Bool.false_and, Bool.and_false]
  · refine ⟨?_, ss⟩
    rw [kSelf]
    exact Bool.and_false _
  · refine ⟨?_, ss⟩
    rw [kSelf]
    show (_ && (true && isInt (.int m) 0 (m - 1))) = false
    rw [b, Bool.and_false, Bool.and_false]
  · refine ⟨?_, ss⟩
    rw [kSelf]
    exact Bool.and_false _
  · refine ⟨?_, sm⟩
    rw [kMark]
    show (_ && (true && (_ && (false && _)))) = false
    rw [Bool.false_and, Bool.and_false, Bool.and_false, Bool.and_false]
  · refine ⟨?_, sm⟩
    rw [kMark]
    exact Bool.and_false _
  · refine ⟨?_, sm⟩
    rw [kMark]
    show (_ && (true && (isInt (.int m) 0 (m - 1) && _))) = false
    rw [b, Bool.false_and, Bool.and_false, Bool.and_false]
  · refine ⟨?_, sm⟩
    rw [kMark]
    show (_ && (true && (_ && (true && isInt (.int n) 0 (n - 1))))) = false
    rw [a, Bool.and_false, Bool.and_false, Bool.and_false, Bool.and_false]
  · refine ⟨?_, sm⟩
    rw [kMark]
    exact Bool.and_false _
  · exact ⟨kOther n m _ _ _ (by decide +kernel) (by decide +kernel) (by decide +kernel) (by decide +kernel), shS _⟩
  · refine ⟨?_, so⟩
    rw [kOne]
    exact Bool.and_false _
  · exact ⟨by rw [kSelf, a]; rfl, ss⟩
  · exact ⟨by rw [kMark, a]; rfl, sm⟩
  · exact ⟨kOther n m _ _ _ rfl rfl rfl rfl, shB _⟩
  · exact ⟨kOther n m _ _ _ rfl rfl rfl rfl, by decide +kernel⟩
section
variable {K : PySem.W.Frag}
/-- no list of three items within: so none is the stream -/
def safe : PyData → Bool
  | .list ds => decide (ds.length ≠ 3) && ds.attach.all fun ⟨d, _⟩ => safe d
  | .tuple ds => ds.attach.all fun ⟨d, _⟩ => safe d
  | _ => true
theorem safe_all {ds : List PyData} : (ds.attach.all fun ⟨d, _⟩ => safe d) = true ↔ ∀ d ∈ ds, safe d = true := by
  simp [List.all_eq_true]
theorem Ext.sqL {p a : Addr} {H H' : Hp} {xs : List V} (e : Ext p H H') (st : Strm H p) (h3 : xs.length ≠ 3) (h : SqL K H a xs) : SqL K H' a xs := by
  obtain ⟨l, ns, c, k, h1, _⟩ := st
  rcases h with (h | ⟨o, h⟩) | h
  · exact .inl (.inl (e _ _ (ne_of h h1 (by intro z; exact h3 (by rw [HO.lst.inj z]; rfl))) h))
  · exact .inl (.inr ⟨o, e _ _ (ne_of h h1 (by intro z; cases z)) h⟩)
  · exact .inr h
mutual
theorem keepX {p : Addr} {H H' : Hp} (e : Ext p H H') (st : Strm H p) : ∀ (d : PyData) (v : V), safe d = true → Dp K H v d → Dp K H' v d
  | .none, _, _, .non => .non
  | .bool _, _, _, .bl b => .bl b
  | .int _, _, _, .int i => .int i
  | .str _, _, _, .str x => .str x
  | .list ds, _, q, .lst h a => by
    unfold safe at q
    rw [Bool.and_eq_true] at q
    exact .lst (e.sqL st (by rw [DpAll.length a]; exact of_decide_eq_true q.1) h) (keepXs e st ds _ (safe_all.mp q.2) a)
  | .tuple ds, _, q, .tup h a => by
    unfold safe at q
    exact .tup (e.sqT st h) (keepXs e st ds _ (safe_all.mp q) a)
theorem keepXs {p : Addr} {H H' : Hp} (e : Ext p H H') (st : Strm H p) : ∀ (ds : List PyData) (vs : List V), (∀ d ∈ ds, safe d = true) → DpAll K H vs ds → DpAll K H' vs ds
  | [], _, _, .nil => .nil
  | d :: ds, _, q, .cons h t => .cons (keepX e st d _ (q d List.mem_cons_self) h) (keepXs e st ds _ (fun x hx => q x (List.mem_cons_of_mem _ hx)) t)
end
theorem cut_last {xs : List V} (hk : 1 ≤ xs.length) : cutV xs none (some (-1)) = xs.take (xs.length - 1) := by
  unfold cutV
  have e : HT.sIx xs.length xs.length (some (-1)) = xs.length - 1 := by
    show (if (-1 : Int) < 0 then ((-1 : Int) + (xs.length : Int)).toNat else min (-1 : Int).toNat xs.length) = _
    rw [if_pos (by decide)]
    omega
  rw [e, HT.sIx_none]
  simp
theorem sig_dp {H : Hp} {v : V} {n m : Int} (h : Dp K H v (.tuple [.int n, .int m])) : Sig K H v n m := by
  cases h with
  | tup h a =>
    cases a with
    | cons d1 a =>
      cases a with
      | cons d2 a =>
        cases a
        rw [dp_int d1, dp_int d2] at h
        exact ⟨_, rfl, h⟩
end
section
variable {P : Program} {w : World} {K : PySem.W.Frag} {mg : Str → Option Value} {base : Heap}
def spSome (K : PySem.W.Frag) : Sp := fun vs H Q _ => ∃ (p : Addr) (sv : V) (n m : Int), vs = [.ref p, sv] ∧ Strm H p ∧ Sig K H sv n m ∧ 1 ≤ n ∧ n ≤ 4 ∧ 1 ≤ m ∧ m ≤ 2 ∧
  ∀ H' t ki, Ext p H H' → Strm H' p → Ki.ok n m ki → SqT K H' t ki.vals → Q (.ref t) H'
theorem ok__law_some_kind (T : Txt K mg) : FnOk P w K mg base CX0 2 T.f__law_some_kind T.d__law_some_kind ["stream", "signature"] (spSome K) := by
  have G__law_next := ok__law_next (P := P) (w := w) (base := base) T
  refine T.F__law_some_kind.ok sc_law_some_kind (fun vs H Q E h => ?_) (fun cdv A outer s H vs Q E hr h => ?_)
  · obtain ⟨p, sv, n, m, rfl, _⟩ := h
    rfl
  · obtain ⟨p, sv, n, m, rfl, st, ⟨a, rfl, hs⟩, h1, h2, h3, h4, k⟩ := h
    refine ⟨_, (pss_cons (ps_set (i := 2) sc_law_some_kind.nd rfl (Or.inl rfl) (pe_call G__law_next (hr.mono (by decide)) (by rfl) T.g__law_next T.F__law_next.kp T.b__law_next .nil pass0 (pa_cons (pv 0) (pa_cons (pe_ix ix_tup (pv 1) pe_int (fun _ _ => rfl)) pa_nil))))
      (pss_cons (ps_set (i := 3) sc_law_some_kind.nd rfl (Or.inl rfl) (pe_call G__law_next (hr.mono (by decide)) (by rfl) T.g__law_next T.F__law_next.kp T.b__law_next .nil pass0 (pa_cons (pv 0) (pa_cons (pe_ix ix_tup (pv 1) pe_int (fun _ _ => rfl)) pa_nil))))
      (pss_cons (ps_set (i := 4) sc_law_some_kind.nd rfl (Or.inl rfl) (pe_call G__law_next (hr.mono (by decide)) (by rfl) T.g__law_next T.F__law_next.kp T.b__law_next .nil pass0 (pa_cons (pv 0) (pa_cons pe_int pa_nil))))
      (pss_cons (ps_if (PW.pt (pw_or (pt_cmpR op_eq (pv 4) pe_int (nomark _)) (pw_or1 (pt_cmpR op_eq (pe_ix ix_tup (pv 1) pe_int (fun _ _ => rfl)) pe_int (nomark _))))) (pss_one (ps_ret (pe_tup (pa_cons pe_str (pa_cons (pv 2) pa_nil))))) pss_nil)
      (pss_cut (ps_if (PW.pt (pw_and (pt_cmpR op_eq (pv 4) pe_int (nomark _)) (pw_and1 (pt_cmpR op_ne (pv 2) (pv 3) (nomark _))))) (pss_one (ps_ret (pe_tup (pa_cons pe_str (pa_cons (pe_callB (call_min2 rfl) (by rfl) T.n_min (by decide +kernel) (pa_cons (pv 2) (pa_cons (pv 3) pa_nil))) (pa_cons (pe_callB (call_max2 rfl) (by rfl) T.n_max (by decide +kernel) (pa_cons (pv 2) (pa_cons (pv 3) pa_nil))) pa_nil)))))) pss_nil)
      (pss_cons (ps_set (i := 5) sc_law_some_kind.nd rfl (Or.inl rfl) (pe_cmpR op_eq (pe_call G__law_next (hr.mono (by decide)) (by rfl) T.g__law_next T.F__law_next.kp T.b__law_next .nil pass0 (pa_cons (pv 0) (pa_cons pe_int pa_nil))) pe_int (nomark _)))
      (pss_cons (ps_set (i := 6) sc_law_some_kind.nd rfl (Or.inl rfl) (pe_call G__law_next (hr.mono (by decide)) (by rfl) T.g__law_next T.F__law_next.kp T.b__law_next .nil pass0 (pa_cons (pv 0) (pa_cons (pe_ix ix_tup (pv 1) pe_int (fun _ _ => rfl)) pa_nil))))
      (pss_cons (ps_if (pt_cmpR op_eq (pv 4) pe_int (nomark _)) (pss_one (ps_ret (pe_tup (pa_cons pe_str (pa_cons (pv 2) (pa_cons (pv 5) (pa_cons (pv 6) pa_nil))))))) pss_nil)
      (pss_one (ps_ret (pe_tup (pa_cons pe_str (pa_cons (pv 2) (pa_cons (pv 5) (pa_cons (pv 6) (pa_cons (pe_cmpR op_eq (pe_call G__law_next (hr.mono (by decide)) (by rfl) T.g__law_next T.F__law_next.kp T.b__law_next .nil pass0 (pa_cons (pv 0) (pa_cons pe_int pa_nil))) pe_int (nomark _)) (pa_cons (pv 3) pa_nil))))))))))))))))), ?_⟩
    refine ⟨_, rfl, _, rfl, a, _, _, _, rfl, rfl, hs, atI_nat (j := 0) rfl, p, n, rfl, st, by omega, by omega, fun H1 x e1 st1 x0 x1 => ?_⟩
    have hs1 := e1.sqT st hs
    refine ⟨_, rfl, _, rfl, a, _, _, _, rfl, rfl, hs1, atI_nat (j := 0) rfl, p, n, rfl, st1, by omega, by omega, fun H2 y e2 st2 y0 y1 => ?_⟩
    have hs2 := e2.sqT st1 hs1
    refine ⟨_, rfl, p, 4, rfl, st2, by decide, by decide, fun H3 i e3 st3 i0 i1 => ?_⟩
    have hs3 := e3.sqT st2 hs2
    have E3 := (e1.trans e2).trans e3
    refine ⟨_, rfl, rfl, _, rfl, ?_⟩
    by_cases c0 : i = 0
    · subst c0
      refine iteT (iteT ⟨_, rfl, by show 2 ≤ sizeLine; decide, fun t nt => ?_⟩)
      exact k _ t (.one x) (E3.trans (Same.ext (same_upd nt))) (st3.keep (same_upd nt)) ⟨x0, x1⟩ (.of upd_same)
    · rw [decide_eq_false fun z => c0 (V.int.inj z)]
      refine iteF ⟨_, rfl, a, _, _, _, rfl, rfl, hs3, atI_nat (j := 1) rfl, rfl, _, rfl, ?_⟩
      rw [decide_eq_false fun z => absurd (V.int.inj z) (show m ≠ 0 by omega)]
      refine iteF ⟨fun σ' H' => σ' = [some (.ref p), some (.ref a), some (.int x), some (.int y), some (.int i), none, none] ∧ H3 = H', ?_, ?_⟩
      · refine ⟨_, rfl, rfl, _, rfl, ?_⟩
        by_cases c1 : i = 1
        · subst c1
          refine iteT ⟨_, rfl, _, rfl, rfl, _, rfl, ?_⟩
          by_cases cxy : x = y
          · subst cxy
            rw [decide_eq_true rfl]
            exact iteF ⟨rfl, rfl⟩
          · rw [decide_eq_false fun z => cxy (V.int.inj z)]
            refine iteT ⟨_, rfl, _, rfl, _, _, rfl, _, rfl, _, rfl, _, _, rfl, by show 3 ≤ sizeLine; decide, fun t nt => ?_⟩
            refine k _ t (.both (if y < x then y else x) (if y > x then y else x)) (E3.trans (Same.ext (same_upd nt))) (st3.keep (same_upd nt)) ?_ (.of upd_same)
            show _ ∧ _ ∧ _
            refine ⟨?_, ?_, ?_⟩ <;> (repeat' split) <;> omega
        · rw [decide_eq_false fun z => c1 (V.int.inj z)]
          exact iteF (iteF ⟨rfl, rfl⟩)
      · rintro _ _ ⟨rfl, rfl⟩
        refine ⟨_, rfl, p, 2, rfl, st3, by decide, by decide, fun H4 b e4 st4 b0 b1 => ⟨rfl, ?_⟩⟩
        have hs4 := e4.sqT st3 hs3
        refine ⟨_, rfl, _, rfl, a, _, _, _, rfl, rfl, hs4, atI_nat (j := 1) rfl, p, m, rfl, st4, by omega, by omega, fun H5 z e5 st5 z0 z1 => ?_⟩
        have E5 := (E3.trans e4).trans e5
        refine ⟨_, rfl, rfl, _, rfl, ?_⟩
        by_cases c2 : i = 2
        · rw [decide_eq_true (show V.int i = V.int 2 by rw [c2])]
          refine iteT ⟨_, rfl, _, rfl, _, rfl, by show 4 ≤ sizeLine; decide, fun t nt => ?_⟩
          exact k _ t (.self x _ z) (E5.trans (Same.ext (same_upd nt))) (st5.keep (same_upd nt)) ⟨x0, x1, z0, z1⟩ (.of upd_same)
        · rw [decide_eq_false fun z => c2 (V.int.inj z)]
          refine iteF ⟨_, rfl, _, rfl, _, rfl, _, rfl, p, 2, rfl, st5, by decide, by decide, fun H6 c e6 st6 c0 c1 => ⟨rfl, _, rfl, by show 6 ≤ sizeLine; decide, fun t nt => ?_⟩⟩
          exact k _ t (.mark x _ z _ y) ((E5.trans e6).trans (Same.ext (same_upd nt))) (st6.keep (same_upd nt)) ⟨x0, x1, z0, z1, y0, y1⟩ (.of upd_same)
end
section
variable {P : Program} {w : World} {K : PySem.W.Frag} {mg : Str → Option Value} {base : Heap}
def splaw (K : PySem.W.Frag) : Sp := fun vs H Q _ => ∃ (a : Addr) (ns : List Int), vs = [.ref a] ∧ SqL K H a (ns.map V.int) ∧ ns.length ≤ 63 ∧ ∀ H', Q (.bl true) H'
/-- the state of the law -/
structure At (K : PySem.W.Frag) (H : Hp) (p sg t : Addr) (n m : Int) (ki : Ki) : Prop where
  st : Strm H p
  sig : Sig K H (.ref sg) n m
  kd : SqT K H t ki.vals
theorem At.keep {H H' : Hp} {p sg t : Addr} {n m : Int} {ki : Ki} (s : Same H H') (a : At K H p sg t n m ki) : At K H' p sg t n m ki := ⟨a.st.keep s, a.sig.keep s, Same.sqT s a.kd⟩
theorem dpB {H : Hp} {b c : Bool} (e : b = c) : Dp K H (.bl b) (.bool c) := by
  rw [e]
  exact .bl c
theorem ki_word (ki : Ki) (r : List PyData) : wordOk (.tuple (ki.data ++ r)) = true := by
  cases ki with
  | one x => exact shS _
  | both x y => exact shS _
  | self x b v => exact shS _
  | mark x b v c y => exact shS _
theorem ki_word0 (ki : Ki) : wordOk (.tuple ki.data) = true := by
  have := ki_word ki []
  rwa [List.append_nil] at this
theorem ki_wordT (ki : Ki) (r : List PyData) (j : Nat) (w : PyData) (h : SeqAt.shaped w = true) : wordOk (.tuple (ki.data.take j ++ [w] ++ r)) = true := by
  cases j with
  | zero => exact h
  | succ j =>
    cases ki with
    | one x => exact shS _
    | both x y => exact shS _
    | self x b v => exact shS _
    | mark x b v c y => exact shS _
theorem ki_wordL (ki : Ki) : wordOk (.tuple (ki.data.take (ki.vals.length - 1))) = true := by
  cases ki with
  | one x => exact shS _
  | both x y => exact shS _
  | self x b v => exact shS _
  | mark x b v c y => exact shS _
theorem ok_law {f : Addr} {fd : FuncData} (F : Fun K "law" "law" slaw f fd) (T : Txt K mg) : FnOk P w K mg base CX0 6 f fd ["script"] (splaw K) := by
  have G__law_stream := ok__law_stream (P := P) (w := w) (base := base) T
  have G__law_next := ok__law_next (P := P) (w := w) (base := base) T
  have G__law_some_kind := ok__law_some_kind (P := P) (w := w) (base := base) T
  have G__law_equal := ok__law_equal (P := P) (w := w) (base := base) T 1
  have G_is_kind := ok_is_kind (P := P) (w := w) (base := base) T
  refine F.ok sclaw (fun vs H Q E h => ?_) (fun cdv A outer s H vs Q E hr h => ?_)
  · obtain ⟨a, ns, rfl, _⟩ := h
    rfl
  · obtain ⟨a, ns, rfl, hS, _, k⟩ := h
    refine ⟨_, (pss_cons (ps_set (i := 1) sclaw.nd rfl (Or.inl rfl) (pe_call G__law_stream (hr.mono (by decide)) (by rfl) T.g__law_stream T.F__law_stream.kp T.b__law_stream .nil pass0 (pa_cons (pv 0) pa_nil)))
      (pss_cons (ps_set (i := 2) sclaw.nd rfl (Or.inl rfl) (pe_tup (pa_cons (pe_op op_add pe_int (pe_call G__law_next (hr.mono (by decide)) (by rfl) T.g__law_next T.F__law_next.kp T.b__law_next .nil pass0 (pa_cons (pv 1) (pa_cons pe_int pa_nil)))) (pa_cons (pe_op op_add pe_int (pe_call G__law_next (hr.mono (by decide)) (by rfl) T.g__law_next T.F__law_next.kp T.b__law_next .nil pass0 (pa_cons (pv 1) (pa_cons pe_int pa_nil)))) pa_nil))))
      (pss_cons (ps_asg (pv 2) (pg_tup rfl (pgs_cons (pg_name (i := 3) sclaw.nd rfl (Or.inl rfl)) (pgs_cons (pg_name (i := 4) sclaw.nd rfl (Or.inl rfl)) pgs_nil))))
      (pss_cons (ps_set (i := 5) sclaw.nd rfl (Or.inl rfl) (pe_call G__law_some_kind (hr.mono (by decide)) (by rfl) T.g__law_some_kind T.F__law_some_kind.kp T.b__law_some_kind .nil pass0 (pa_cons (pv 1) (pa_cons (pv 2) pa_nil))))
      (pss_cons (ps_if (PW.pt (pw_or (pt_not (pt_val (pe_call G__law_equal (hr.mono (by decide)) (by rfl) T.g__law_equal T.F__law_equal.kp T.b__law_equal .nil pass0 (pa_cons (pe_call G_is_kind (hr.mono (by decide)) (by rfl) T.g_is_kind T.F_is_kind.kp T.b_is_kind .nil pass0 (pa_cons (pv 2) (pa_cons (pv 5) pa_nil))) (pa_cons pe_bl pa_nil))))) (pw_or1 (pt_not (pt_val (pe_call G__law_equal (hr.mono (by decide)) (by rfl) T.g__law_equal T.F__law_equal.kp T.b__law_equal .nil pass0 (pa_cons (pe_call G_is_kind (hr.mono (by decide)) (by rfl) T.g_is_kind T.F_is_kind.kp T.b_is_kind .nil pass0 (pa_cons (pv 2) (pa_cons (pe_callTy call_list_of (by rfl) T.n_list (by decide +kernel) (pa_cons (pv 5) pa_nil)) pa_nil))) (pa_cons pe_bl pa_nil)))))))) (pss_one (ps_ret pe_bl)) pss_nil)
      (pss_cons (ps_if (PW.pt (pw_or (pt_not (pt_val (pe_call G__law_equal (hr.mono (by decide)) (by rfl) T.g__law_equal T.F__law_equal.kp T.b__law_equal .nil pass0 (pa_cons (pe_call G_is_kind (hr.mono (by decide)) (by rfl) T.g_is_kind T.F_is_kind.kp T.b_is_kind .nil pass0 (pa_cons (pv 2) (pa_cons (pe_op op_catA (pv 5) (pe_tup (pa_cons pe_int pa_nil))) pa_nil))) (pa_cons pe_bl pa_nil))))) (pw_or1 (pt_not (pt_val (pe_call G__law_equal (hr.mono (by decide)) (by rfl) T.g__law_equal T.F__law_equal.kp T.b__law_equal .nil pass0 (pa_cons (pe_call G_is_kind (hr.mono (by decide)) (by rfl) T.g_is_kind T.F_is_kind.kp T.b_is_kind .nil pass0 (pa_cons (pv 2) (pa_cons (pe_slice sl_tupA (pv 5) po_none (po_some (pe_un un_neg pe_int))) pa_nil))) (pa_cons pe_bl pa_nil)))))))) (pss_one (ps_ret pe_bl)) pss_nil)
      (pss_cons (ps_for PassesOwn.never rfl (pi_range1 (by rfl) T.n_range (pa_cons (pe_callB call_len_seq (by rfl) T.n_len (by decide +kernel) (pa_cons (pv 5) pa_nil)) pa_nil)) (pg_name (i := 6) sclaw.nd rfl (Or.inl rfl)) (pss_one (ps_for PassesOwn.never rfl (pi_list (pe_lst (pa_cons pe_non (pa_cons (pe_un un_neg pe_int) (pa_cons pe_int (pa_cons pe_str (pa_cons (pe_tup pa_nil) pa_nil))))))) (pg_name (i := 7) sclaw.nd rfl (Or.inl rfl)) (pss_one (ps_if (pt_not (pt_val (pe_call G__law_equal (hr.mono (by decide)) (by rfl) T.g__law_equal T.F__law_equal.kp T.b__law_equal .nil pass0 (pa_cons (pe_call G_is_kind (hr.mono (by decide)) (by rfl) T.g_is_kind T.F_is_kind.kp T.b_is_kind .nil pass0 (pa_cons (pv 2) (pa_cons (pe_op op_catA (pe_op op_catA (pe_slice sl_tupA (pv 5) po_none (po_some (pv 6))) (pe_tup (pa_cons (pv 7) pa_nil))) (pe_slice sl_tupA (pv 5) (po_some (pe_op op_add (pv 6) pe_int)) po_none)) pa_nil))) (pa_cons pe_bl pa_nil))))) (pss_one (ps_ret pe_bl)) pss_nil)))))
      (pss_cons (ps_set (i := 8) sclaw.nd rfl (Or.inl rfl) (pe_lst (pa_cons pe_non (pa_cons (pe_tup pa_nil) (pa_cons pe_str (pa_cons (pe_tup (pa_cons pe_str (pa_cons (pv 3) pa_nil))) (pa_cons (pe_tup (pa_cons pe_str (pa_cons pe_bl pa_nil))) (pa_cons (pe_tup (pa_cons pe_str (pa_cons pe_int (pa_cons pe_int pa_nil)))) (pa_cons (pe_tup (pa_cons pe_str (pa_cons pe_int (pa_cons pe_int pa_nil)))) (pa_cons (pe_tup (pa_cons pe_str (pa_cons pe_int (pa_cons (pv 3) pa_nil)))) (pa_cons (pe_tup (pa_cons pe_str (pa_cons pe_int (pa_cons pe_int (pa_cons pe_int pa_nil))))) (pa_cons (pe_tup (pa_cons pe_str (pa_cons pe_int (pa_cons pe_bl (pa_cons (pv 4) pa_nil))))) (pa_cons (pe_tup (pa_cons pe_str (pa_cons pe_int (pa_cons pe_bl (pa_cons pe_bl pa_nil))))) pa_nil)))))))))))))
      (pss_cons (ps_set (i := 8) sclaw.nd rfl (Or.inl rfl) (pe_op op_cat (pv 8) (pe_lst (pa_cons (pe_tup (pa_cons pe_str (pa_cons pe_int (pa_cons pe_bl (pa_cons pe_int (pa_cons pe_int (pa_cons pe_int pa_nil))))))) (pa_cons (pe_tup (pa_cons pe_str (pa_cons pe_int (pa_cons pe_int (pa_cons pe_int (pa_cons pe_bl (pa_cons pe_int pa_nil))))))) (pa_cons (pe_tup (pa_cons pe_str (pa_cons pe_int (pa_cons pe_bl (pa_cons (pv 4) (pa_cons pe_bl (pa_cons pe_int pa_nil))))))) (pa_cons (pe_tup (pa_cons pe_str (pa_cons pe_int (pa_cons pe_bl (pa_cons pe_int (pa_cons pe_bl (pa_cons (pv 3) pa_nil))))))) (pa_cons (pe_tup (pa_cons pe_str (pa_cons pe_int (pa_cons pe_bl (pa_cons pe_int (pa_cons pe_bl pa_nil)))))) (pa_cons (pe_tup (pa_cons pe_str (pa_cons pe_int pa_nil))) pa_nil)))))))))
      (pss_cons (ps_set (i := 8) sclaw.nd rfl (Or.inl rfl) (pe_op op_cat (pv 8) (pe_lst (pa_cons (pe_tup (pa_cons pe_str (pa_cons pe_int (pa_cons pe_int pa_nil)))) (pa_cons (pe_tup (pa_cons pe_str (pa_cons (pv 3) (pa_cons pe_bl (pa_cons pe_int pa_nil))))) (pa_cons (pe_tup (pa_cons pe_str (pa_cons (pv 3) (pa_cons pe_bl (pa_cons pe_int (pa_cons pe_bl (pa_cons pe_int pa_nil))))))) (pa_cons (pe_tup (pa_cons pe_bl (pa_cons pe_int pa_nil))) (pa_cons (pe_tup (pa_cons (pe_lst (pa_cons pe_str pa_nil)) (pa_cons pe_int pa_nil))) pa_nil))))))))
      (pss_cons (ps_if (pt_not (pt_val (pe_call G__law_equal (hr.mono (by decide)) (by rfl) T.g__law_equal T.F__law_equal.kp T.b__law_equal .nil pass0 (pa_cons (pe_call G_is_kind (hr.mono (by decide)) (by rfl) T.g_is_kind T.F_is_kind.kp T.b_is_kind .nil pass0 (pa_cons (pv 2) (pa_cons (pe_ix ix_list (pv 8) (pe_call G__law_next (hr.mono (by decide)) (by rfl) T.g__law_next T.F__law_next.kp T.b__law_next .nil pass0 (pa_cons (pv 1) (pa_cons pe_int pa_nil))) (fun _ _ => rfl)) pa_nil))) (pa_cons pe_bl pa_nil))))) (pss_one (ps_ret pe_bl)) pss_nil)
      (pss_one (ps_ret (pe_and (pe_call G__law_equal (hr.mono (by decide)) (by rfl) T.g__law_equal T.F__law_equal.kp T.b__law_equal .nil pass0 (pa_cons (pe_call G_is_kind (hr.mono (by decide)) (by rfl) T.g_is_kind T.F_is_kind.kp T.b_is_kind .nil pass0 (pa_cons (pe_tup (pa_cons (pv 3) (pa_cons pe_int pa_nil))) (pa_cons (pe_tup (pa_cons pe_str (pa_cons pe_int (pa_cons pe_bl (pa_cons pe_int pa_nil))))) pa_nil))) (pa_cons pe_bl pa_nil))) (pe_one (pe_call G__law_equal (hr.mono (by decide)) (by rfl) T.g__law_equal T.F__law_equal.kp T.b__law_equal .nil pass0 (pa_cons (pe_call G_is_kind (hr.mono (by decide)) (by rfl) T.g_is_kind T.F_is_kind.kp T.b_is_kind .nil pass0 (pa_cons (pe_tup (pa_cons (pv 3) (pa_cons pe_int pa_nil))) (pa_cons (pe_tup (pa_cons pe_str (pa_cons (pe_op op_sub (pv 3) pe_int) pa_nil))) pa_nil))) (pa_cons pe_bl pa_nil)))))))))))))))))), ?_⟩
    refine ⟨_, rfl, a, ns, rfl, hS, fun H1 p s1 st1 => ?_⟩
    refine ⟨_, rfl, p, 4, rfl, st1, by decide, by decide, fun H2 x e2 st2 x0 x1 => ⟨1, x, rfl, rfl, _, rfl, p, 2, rfl, st2, by decide, by decide, fun H3 y e3 st3 y0 y1 => ⟨1, y, rfl, rfl, by show 2 ≤ sizeLine; decide, fun sg nsg => ?_⟩⟩⟩
    dsimp only
    generalize hn : 1 + x = n
    generalize hm : 1 + y = m
    have hsg : SqT K (upd H3 sg (.tup [.int n, .int m])) sg [.int n, .int m] := .of upd_same
    refine ⟨_, rfl, sg, _, rfl, hsg, rfl, _, _, rfl, _, _, rfl, rfl, ?_⟩
    have n1 : 1 ≤ n := by omega
    have n4 : n ≤ 4 := by omega
    have m1 : 1 ≤ m := by omega
    have m2 : m ≤ 2 := by omega
    refine ⟨_, rfl, _, rfl, p, .ref sg, n, m, rfl, st3.keep (same_upd nsg), ⟨sg, rfl, hsg⟩, n1, n4, m1, m2, fun H5 t ki e5 st5 hok ht => ?_⟩
    have A5 : At K H5 p sg t n m ki := ⟨st5, e5.sig (st3.keep (same_upd nsg)) ⟨sg, rfl, hsg⟩, ht⟩
    have m0 : 0 ≤ m := by omega
    -- the kind, and its list
    refine ⟨_, rfl, _, rfl, _, _, _, n, m, rfl, A5.sig, n1, n4, m0, m2, .tup A5.kd (ki.dp _ _), ki_word0 ki, fun H6 s6 => ⟨_, _, _, rfl, dpB (ki_true hok), .bl _, rfl, fun H7 s7 => ⟨_, rfl, iteF ?_⟩⟩⟩
    have A7 := (A5.keep s6).keep s7
    refine ⟨_, rfl, _, rfl, t, _, rfl, .inr A7.kd, fun l nl => ⟨_, _, _, n, m, rfl, (A7.keep (same_upd nl)).sig, n1, n4, m0, m2, .lst (.of upd_same) (ki.dp _ _), rfl, fun H9 s9 => ⟨_, _, _, rfl, dpB rfl, .bl _, rfl, fun H10 s10 => ⟨_, rfl, iteF ?_⟩⟩⟩⟩
    have A10 := ((A7.keep (same_upd nl)).keep s9).keep s10
    -- longer, shorter
    refine ⟨_, rfl, _, rfl, by show 1 ≤ sizeLine; decide, fun q nq => ?_⟩
    have A11 := A10.keep (same_upd (o := .tup [.int 0]) nq)
    have hl := ki.len
    refine catA_ok A11.kd (.of upd_same) (by rw [List.length_singleton]; exact small (by omega)) fun t2 H12 s12 ht2 => ?_
    have A12 := A11.keep s12
    refine ⟨_, _, _, n, m, rfl, A12.sig, n1, n4, m0, m2, .tup ht2 (DpAll.append (ki.dp _ _) (.cons (.int 0) .nil)), ki_word ki _, fun H13 s13 => ⟨_, _, _, rfl, dpB (ki_more ki), .bl _, rfl, fun H14 s14 => ⟨_, rfl, iteF ?_⟩⟩⟩
    have A14 := (A12.keep s13).keep s14
    refine ⟨_, rfl, _, rfl, 1, rfl, -1, rfl, ?_⟩
    refine slA_ok A14.kd fun t3 H15 s15 ht3 => ?_
    have A15 := A14.keep s15
    rw [cut_last (by omega)] at ht3
    refine ⟨_, _, _, n, m, rfl, A15.sig, n1, n4, m0, m2, .tup ht3 (DpAll.take _ (ki.dp _ _)), ki_wordL ki, fun H16 s16 => ⟨_, _, _, rfl, dpB (ki_less ki), .bl _, rfl, fun H17 s17 => ⟨_, rfl, iteF ?_⟩⟩⟩
    have A17 := (A15.keep s16).keep s17
    -- each place
    have hld : ki.vals.length = ki.data.length := DpAll.length (ki.dp K H)
    refine ⟨_, rfl, t, _, rfl, .inr A17.kd, _, rfl, by omega, by omega, for_range (lo := 0) (n := ki.vals.length) (fun i σ H' => (∃ y z, σ = [some (.ref a), some (.ref p), some (.ref sg), some (.int n), some (.int m), some (.ref t), y, z, none]) ∧ At K H' p sg t n m ki) ⟨⟨none, none, rfl⟩, A17⟩ (fun i σ H' hi hP => ?_) fun σ H' hP => ?_⟩
    · obtain ⟨⟨y', z', rfl⟩, A'⟩ := hP
      refine ⟨1, rfl, Nat.zero_le _, fun e ne => ⟨by show 5 ≤ sizeLine; decide, fun D nD => ?_⟩⟩
      generalize hus : ([.non, .int (-1), .int 9, .str "x", .ref e] : List V) = us
      have s6 : Same H' (upd (upd H' e (.tup [])) D (.lst us)) := (same_upd ne).trans (same_upd nD)
      have hD : (upd (upd H' e (.tup [])) D (.lst us)) D = some (.lst us) := upd_same
      have ha : DpAll K (upd (upd H' e (.tup [])) D (.lst us)) us wrongs := by
        rw [← hus]
        refine .cons .non (.cons (.int _) (.cons (.int _) (.cons (.str _) (.cons (.tup (.of ?_) .nil) .nil))))
        rw [upd_ne (fun z => by rw [z, upd_same] at nD; cases nD), upd_same]
      have A6 := A'.keep s6
      refine ⟨D, rfl, ⟨_, .of hD⟩, for_list (K := K) (a := D) (xs := us) (fun j σ H' => (∃ z, σ = [some (.ref a), some (.ref p), some (.ref sg), some (.int n), some (.int m), some (.ref t), some (.int (0 + (i : Int))), z, none]) ∧ At K H' p sg t n m ki ∧ H' D = some (.lst us) ∧ DpAll K H' us wrongs)
        ⟨⟨_, rfl⟩, A6, hD, ha⟩ (fun _ _ _ _ hP => .of hP.2.2.1) (fun j x σ H' hx hP => ?_) fun σ H' hP => ?_⟩
      · obtain ⟨⟨z', rfl⟩, A7, hD7, ha7⟩ := hP
        obtain ⟨wd, hw, dw⟩ : ∃ wd, wd ∈ wrongs ∧ Dp K H' x wd := by
          have hj := (List.getElem?_eq_some_iff.mp hx).1
          rw [DpAll.length ha7] at hj
          obtain ⟨x', e1, e2⟩ := DpAll.get ha7 (List.getElem?_eq_getElem hj)
          rw [hx] at e1
          cases e1
          exact ⟨_, List.getElem_mem hj, e2⟩
        have B := bad_all n m wd hw
        refine ⟨_, rfl, _, rfl, _, rfl, _, rfl, ?_⟩
        refine slA_ok A7.kd fun t2 H8 s8 ht2 => ?_
        have A8 := A7.keep s8
        rw [show (0 : Int) + (i : Int) = ((i : Nat) : Int) by omega, cut_to (by omega)] at ht2
        refine ⟨_, rfl, by show 1 ≤ sizeLine; decide, fun q nq => ?_⟩
        have A9 := A8.keep (same_upd (o := .tup [x]) nq)
        refine catA_ok (Same.sqT (same_upd nq) ht2) (.of upd_same) (by rw [List.length_singleton, List.length_take]; exact small (by omega)) fun t3 H10 s10 ht3 => ?_
        have A10 := A9.keep s10
        refine ⟨_, rfl, _, rfl, _, _, rfl, rfl, _, rfl, ?_⟩
        dsimp only [tNoPart]
        refine slA_ok A10.kd fun t4 H11 s11 ht4 => ?_
        have A11 := A10.keep s11
        rw [show (0 : Int) + (i : Int) + 1 = ((i + 1 : Nat) : Int) by omega, cut_from (by omega)] at ht4
        refine catA_ok (Same.sqT s11 ht3) ht4 (by rw [List.length_append, List.length_singleton, List.length_take, List.length_drop]; exact small (by omega)) fun t5 H12 s12 ht5 => ?_
        have A12 := A11.keep s12
        have S12 : Same H' H12 := s8.trans ((same_upd nq).trans (s10.trans (s11.trans s12)))
        refine ⟨_, _, _, n, m, rfl, A12.sig, n1, n4, m0, m2, .tup ht5 (DpAll.append (DpAll.append (DpAll.take _ (ki.dp _ _)) (.cons (keepD S12 _ _ dw) .nil)) (DpAll.drop _ (ki.dp _ _))), ki_wordT ki _ i wd B.sh, fun H13 s13 => ⟨_, _, _, rfl, dpB (ki_wrong n4 m2 B i (by omega)), .bl _, rfl, fun H14 s14 => ⟨_, rfl, iteF ?_⟩⟩⟩
        exact ⟨⟨_, rfl⟩, (A12.keep s13).keep s14, s14 _ _ (s13 _ _ (S12 _ _ hD7)), keepDs (S12.trans (s13.trans s14)) _ _ ha7⟩
      · obtain ⟨⟨z', rfl⟩, A7, _, _⟩ := hP
        exact ⟨⟨_, _, rfl⟩, A7⟩
    · obtain ⟨⟨y', z', rfl⟩, A'⟩ := hP
      -- what is odd
      dsimp only [tSeq, tAsg]
      refine dl_lst (K := K) (ds := odd1 n m) ?da2 _ (fun o1 u1 H6 s6 hO1 ha1 => ?_) (by show 11 ≤ 1000; decide)
      case da2 => exact da_cons de_non (da_cons (de_tup da_nil) (da_cons de_str (da_cons (de_tup (da_cons de_str (da_cons (de_var rfl (.int n)) da_nil))) (da_cons (de_tup (da_cons de_str (da_cons de_bl da_nil))) (da_cons (de_tup (da_cons de_str (da_cons de_int (da_cons de_int da_nil)))) (da_cons (de_tup (da_cons de_str (da_cons de_int (da_cons de_int da_nil)))) (da_cons (de_tup (da_cons de_str (da_cons de_int (da_cons (de_var rfl (.int n)) da_nil)))) (da_cons (de_tup (da_cons de_str (da_cons de_int (da_cons de_int (da_cons de_int da_nil))))) (da_cons (de_tup (da_cons de_str (da_cons de_int (da_cons de_bl (da_cons (de_var rfl (.int m)) da_nil))))) (da_cons (de_tup (da_cons de_str (da_cons de_int (da_cons de_bl (da_cons de_bl da_nil))))) da_nil))))))))))
      refine ⟨_, rfl, ?_⟩
      refine dl_lst (K := K) (ds := odd2 n m) ?da3 _ (fun o2 u2 H7 s7 hO2 ha2 => ?_) (by show 6 ≤ 1000; decide)
      case da3 => exact da_cons (de_tup (da_cons de_str (da_cons de_int (da_cons de_bl (da_cons de_int (da_cons de_int (da_cons de_int da_nil))))))) (da_cons (de_tup (da_cons de_str (da_cons de_int (da_cons de_int (da_cons de_int (da_cons de_bl (da_cons de_int da_nil))))))) (da_cons (de_tup (da_cons de_str (da_cons de_int (da_cons de_bl (da_cons (de_var rfl (.int m)) (da_cons de_bl (da_cons de_int da_nil))))))) (da_cons (de_tup (da_cons de_str (da_cons de_int (da_cons de_bl (da_cons de_int (da_cons de_bl (da_cons (de_var rfl (.int n)) da_nil))))))) (da_cons (de_tup (da_cons de_str (da_cons de_int (da_cons de_bl (da_cons de_int (da_cons de_bl da_nil)))))) (da_cons (de_tup (da_cons de_str (da_cons de_int da_nil))) da_nil)))))
      refine cat_ok (s7 _ _ hO1) hO2 (by rw [DpAll.length ha1, DpAll.length ha2]; exact small (by show 11 + 6 ≤ 1000; decide)) fun o3 H8 s8 hO3 => ?_
      have ha3 := DpAll.append (keepDs (s7.trans s8) _ _ ha1) (keepDs s8 _ _ ha2)
      refine ⟨_, rfl, ?_⟩
      refine dl_lst (K := K) (ds := odd3 n) ?da4 _ (fun o4 u4 H9 s9 hO4 ha4 => ?_) (by show 5 ≤ 1000; decide)
      case da4 => exact da_cons (de_tup (da_cons de_str (da_cons de_int (da_cons de_int da_nil)))) (da_cons (de_tup (da_cons de_str (da_cons (de_var rfl (.int n)) (da_cons de_bl (da_cons de_int da_nil))))) (da_cons (de_tup (da_cons de_str (da_cons (de_var rfl (.int n)) (da_cons de_bl (da_cons de_int (da_cons de_bl (da_cons de_int da_nil))))))) (da_cons (de_tup (da_cons de_bl (da_cons de_int da_nil))) (da_cons (de_tup (da_cons (de_lst (da_cons de_str da_nil)) (da_cons de_int da_nil))) da_nil))))
      refine cat_ok (s9 _ _ hO3) hO4 (by rw [DpAll.length ha3, DpAll.length ha4]; exact small (by show 17 + 5 ≤ 1000; decide)) fun o5 H10 s10 hO5 => ?_
      have ha5 := DpAll.append (keepDs (s9.trans s10) _ _ ha3) (keepDs s10 _ _ ha4)
      have A10 := A'.keep (s6.trans (s7.trans (s8.trans (s9.trans s10))))
      refine ⟨_, rfl, _, rfl, _, rfl, p, 22, rfl, A10.st, by decide, by decide, fun H11 d e11 st11 d0 d1 => ?_⟩
      obtain ⟨j, rfl⟩ := Int.eq_ofNat_of_zero_le d0
      have hj : j < (odd1 n m ++ odd2 n m ++ odd3 n).length := by
        show j < 22
        omega
      obtain ⟨v, ev, dv⟩ := DpAll.get ha5 (List.getElem?_eq_getElem hj)
      have mem := List.getElem_mem hj
      generalize (odd1 n m ++ odd2 n m ++ odd3 n)[j] = dd at dv mem
      have sf : safe dd = true := by
        have : ∀ d ∈ odd1 n m ++ odd2 n m ++ odd3 n, safe d = true := by
          intro d hd
          simp only [odd1, odd2, odd3, List.cons_append, List.nil_append, List.mem_cons, List.not_mem_nil, or_false] at hd
          rcases hd with rfl | rfl | rfl | rfl | rfl | rfl | rfl | rfl | rfl | rfl | rfl | rfl | rfl | rfl | rfl | rfl | rfl | rfl | rfl | rfl | rfl | rfl <;> simp [safe]
        exact this dd mem
      have hO6 : SqL K H11 o5 (u1 ++ u2 ++ u4) := e11.sqL A10.st (by rw [DpAll.length ha5]; show 22 ≠ 3; decide) (.of hO5)
      have A11 : At K H11 p sg t n m ki := ⟨st11, e11.sig A10.st A10.sig, e11.sqT A10.st A10.kd⟩
      have od := odd_all dd mem
      refine ⟨o5, _, _, v, rfl, rfl, hO6, atI_nat ev, _, _, dd, n, m, rfl, A11.sig, n1, n4, m0, m2, keepX e11 A10.st _ _ sf dv, od.2, fun H12 s12 => ⟨_, _, _, rfl, dpB od.1, .bl _, rfl, fun H13 s13 => ⟨_, rfl, iteF ?_⟩⟩⟩
      -- no verbs
      refine ⟨_, rfl, by show 2 ≤ sizeLine; decide, fun q1 nq1 => ⟨by show 4 ≤ sizeLine; decide, fun q2 nq2 => ?_⟩⟩
      refine ⟨_, _, .tuple [.str "self", .int 0, .bool true, .int 0], n, 0, rfl, ⟨q1, rfl, Same.sqT (same_upd nq2) (.of upd_same)⟩, n1, n4, by decide, by decide, .tup (.of upd_same) (.cons (.str _) (.cons (.int _) (.cons (.bl _) (.cons (.int _) .nil)))), shS _, fun H16 s16 => ⟨_, _, _, rfl, dpB ?_, .bl _, rfl, fun H17 s17 => ⟨_, rfl, iteT ?_⟩⟩⟩
      · rw [kSelf]
        exact Bool.and_eq_false_iff.mpr (.inr rfl)
      refine ⟨_, rfl, by show 2 ≤ sizeLine; decide, fun q1 nq1 => ⟨_, rfl, n, 1, rfl, rfl, by show 2 ≤ sizeLine; decide, fun q nq => ?_⟩⟩
      refine ⟨_, _, .tuple [.str "one", .int (n - 1)], n, 0, rfl, ⟨q1, rfl, Same.sqT (same_upd nq) (.of upd_same)⟩, n1, n4, by decide, by decide, .tup (.of upd_same) (.cons (.str _) (.cons (.int _) .nil)), shS _, fun H19 s19 => ⟨_, _, _, rfl, dpB ?_, .bl _, rfl, fun H20 s20 => k _⟩⟩
      rw [kOne, inI (by omega) (by omega)]
      rfl
end

theorem all_mk {l : PySem.W.OpenLaw} {w : World} {K : PySem.W.Frag} {h : Heap} {mg : Str → Option Value} {fa : Addr} (X : K.In h) (G : h.Ns mainGlobals mg) (hfa : mg "law" = some (.ref fa))
    {f1 : Addr} {od1 an1 : Option Addr} {sl1 : Array (Option Value)} {oc1 kV1 dc1 pm1 cd1 ct1 : Value}
    (a1 : PySem.W.nsIn K mainGlobals "is_integer" = some (some (.ref f1))) (l1 : K.lookup f1 = some ⟨oc1, od1, .func (PySem.W.fnOf "is_integer" "is_integer" (defArgs sis_integer) (defBody sis_integer) (defScope sis_integer) .none kV1 dc1 pm1 an1 cd1 ct1), sl1⟩) (c1 : PySem.W.codeIn K cd1 "is_integer" = true) (k1 : PySem.W.keepIn K (.ref f1) = true)
    {f2 : Addr} {od2 an2 : Option Addr} {sl2 : Array (Option Value)} {oc2 kV2 dc2 pm2 cd2 ct2 : Value}
    (a2 : PySem.W.nsIn K mainGlobals "is_noun" = some (some (.ref f2))) (l2 : K.lookup f2 = some ⟨oc2, od2, .func (PySem.W.fnOf "is_noun" "is_noun" (defArgs sis_noun) (defBody sis_noun) (defScope sis_noun) .none kV2 dc2 pm2 an2 cd2 ct2), sl2⟩) (c2 : PySem.W.codeIn K cd2 "is_noun" = true) (k2 : PySem.W.keepIn K (.ref f2) = true)
    {f3 : Addr} {od3 an3 : Option Addr} {sl3 : Array (Option Value)} {oc3 kV3 dc3 pm3 cd3 ct3 : Value}
    (a3 : PySem.W.nsIn K mainGlobals "is_verb" = some (some (.ref f3))) (l3 : K.lookup f3 = some ⟨oc3, od3, .func (PySem.W.fnOf "is_verb" "is_verb" (defArgs sis_verb) (defBody sis_verb) (defScope sis_verb) .none kV3 dc3 pm3 an3 cd3 ct3), sl3⟩) (c3 : PySem.W.codeIn K cd3 "is_verb" = true) (k3 : PySem.W.keepIn K (.ref f3) = true)
    {f4 : Addr} {od4 an4 : Option Addr} {sl4 : Array (Option Value)} {oc4 kV4 dc4 pm4 cd4 ct4 : Value}
    (a4 : PySem.W.nsIn K mainGlobals "is_signature" = some (some (.ref f4))) (l4 : K.lookup f4 = some ⟨oc4, od4, .func (PySem.W.fnOf "is_signature" "is_signature" (defArgs sis_signature) (defBody sis_signature) (defScope sis_signature) .none kV4 dc4 pm4 an4 cd4 ct4), sl4⟩) (c4 : PySem.W.codeIn K cd4 "is_signature" = true) (k4 : PySem.W.keepIn K (.ref f4) = true)
    {f5 : Addr} {od5 an5 : Option Addr} {sl5 : Array (Option Value)} {oc5 kV5 dc5 pm5 cd5 ct5 : Value}
    (a5 : PySem.W.nsIn K mainGlobals "check_signature" = some (some (.ref f5))) (l5 : K.lookup f5 = some ⟨oc5, od5, .func (PySem.W.fnOf "check_signature" "check_signature" (defArgs scheck_signature) (defBody scheck_signature) (defScope scheck_signature) .none kV5 dc5 pm5 an5 cd5 ct5), sl5⟩) (c5 : PySem.W.codeIn K cd5 "check_signature" = true) (k5 : PySem.W.keepIn K (.ref f5) = true)
    {f6 : Addr} {od6 an6 : Option Addr} {sl6 : Array (Option Value)} {oc6 kV6 dc6 pm6 cd6 ct6 : Value}
    (a6 : PySem.W.nsIn K mainGlobals "_is_kind" = some (some (.ref f6))) (l6 : K.lookup f6 = some ⟨oc6, od6, .func (PySem.W.fnOf "_is_kind" "_is_kind" (defArgs s_is_kind) (defBody s_is_kind) (defScope s_is_kind) .none kV6 dc6 pm6 an6 cd6 ct6), sl6⟩) (c6 : PySem.W.codeIn K cd6 "_is_kind" = true) (k6 : PySem.W.keepIn K (.ref f6) = true)
    {f7 : Addr} {od7 an7 : Option Addr} {sl7 : Array (Option Value)} {oc7 kV7 dc7 pm7 cd7 ct7 : Value}
    (a7 : PySem.W.nsIn K mainGlobals "_is_mark_rest" = some (some (.ref f7))) (l7 : K.lookup f7 = some ⟨oc7, od7, .func (PySem.W.fnOf "_is_mark_rest" "_is_mark_rest" (defArgs s_is_mark_rest) (defBody s_is_mark_rest) (defScope s_is_mark_rest) .none kV7 dc7 pm7 an7 cd7 ct7), sl7⟩) (c7 : PySem.W.codeIn K cd7 "_is_mark_rest" = true) (k7 : PySem.W.keepIn K (.ref f7) = true)
    {f8 : Addr} {od8 an8 : Option Addr} {sl8 : Array (Option Value)} {oc8 kV8 dc8 pm8 cd8 ct8 : Value}
    (a8 : PySem.W.nsIn K mainGlobals "is_kind" = some (some (.ref f8))) (l8 : K.lookup f8 = some ⟨oc8, od8, .func (PySem.W.fnOf "is_kind" "is_kind" (defArgs sis_kind) (defBody sis_kind) (defScope sis_kind) .none kV8 dc8 pm8 an8 cd8 ct8), sl8⟩) (c8 : PySem.W.codeIn K cd8 "is_kind" = true) (k8 : PySem.W.keepIn K (.ref f8) = true)
    {f9 : Addr} {od9 an9 : Option Addr} {sl9 : Array (Option Value)} {oc9 kV9 dc9 pm9 cd9 ct9 : Value}
    (a9 : PySem.W.nsIn K mainGlobals "_law_stream" = some (some (.ref f9))) (l9 : K.lookup f9 = some ⟨oc9, od9, .func (PySem.W.fnOf "_law_stream" "_law_stream" (defArgs s_law_stream) (defBody s_law_stream) (defScope s_law_stream) .none kV9 dc9 pm9 an9 cd9 ct9), sl9⟩) (c9 : PySem.W.codeIn K cd9 "_law_stream" = true) (k9 : PySem.W.keepIn K (.ref f9) = true)
    {f10 : Addr} {od10 an10 : Option Addr} {sl10 : Array (Option Value)} {oc10 kV10 dc10 pm10 cd10 ct10 : Value}
    (a10 : PySem.W.nsIn K mainGlobals "_law_next" = some (some (.ref f10))) (l10 : K.lookup f10 = some ⟨oc10, od10, .func (PySem.W.fnOf "_law_next" "_law_next" (defArgs s_law_next) (defBody s_law_next) (defScope s_law_next) .none kV10 dc10 pm10 an10 cd10 ct10), sl10⟩) (c10 : PySem.W.codeIn K cd10 "_law_next" = true) (k10 : PySem.W.keepIn K (.ref f10) = true)
    {f11 : Addr} {od11 an11 : Option Addr} {sl11 : Array (Option Value)} {oc11 kV11 dc11 pm11 cd11 ct11 : Value}
    (a11 : PySem.W.nsIn K mainGlobals "_law_is_integer" = some (some (.ref f11))) (l11 : K.lookup f11 = some ⟨oc11, od11, .func (PySem.W.fnOf "_law_is_integer" "_law_is_integer" (defArgs s_law_is_integer) (defBody s_law_is_integer) (defScope s_law_is_integer) .none kV11 dc11 pm11 an11 cd11 ct11), sl11⟩) (c11 : PySem.W.codeIn K cd11 "_law_is_integer" = true) (k11 : PySem.W.keepIn K (.ref f11) = true)
    {f12 : Addr} {od12 an12 : Option Addr} {sl12 : Array (Option Value)} {oc12 kV12 dc12 pm12 cd12 ct12 : Value}
    (a12 : PySem.W.nsIn K mainGlobals "_law_equal" = some (some (.ref f12))) (l12 : K.lookup f12 = some ⟨oc12, od12, .func (PySem.W.fnOf "_law_equal" "_law_equal" (defArgs s_law_equal) (defBody s_law_equal) (defScope s_law_equal) .none kV12 dc12 pm12 an12 cd12 ct12), sl12⟩) (c12 : PySem.W.codeIn K cd12 "_law_equal" = true) (k12 : PySem.W.keepIn K (.ref f12) = true)
    {f13 : Addr} {od13 an13 : Option Addr} {sl13 : Array (Option Value)} {oc13 kV13 dc13 pm13 cd13 ct13 : Value}
    (a13 : PySem.W.nsIn K mainGlobals "_law_some_kind" = some (some (.ref f13))) (l13 : K.lookup f13 = some ⟨oc13, od13, .func (PySem.W.fnOf "_law_some_kind" "_law_some_kind" (defArgs s_law_some_kind) (defBody s_law_some_kind) (defScope s_law_some_kind) .none kV13 dc13 pm13 an13 cd13 ct13), sl13⟩) (c13 : PySem.W.codeIn K cd13 "_law_some_kind" = true) (k13 : PySem.W.keepIn K (.ref f13) = true)
    {f14 : Addr} {od14 an14 : Option Addr} {sl14 : Array (Option Value)} {oc14 kV14 dc14 pm14 cd14 ct14 : Value}
    (a14 : PySem.W.nsIn K mainGlobals "law" = some (some (.ref f14))) (l14 : K.lookup f14 = some ⟨oc14, od14, .func (PySem.W.fnOf "law" "law" (defArgs slaw) (defBody slaw) (defScope slaw) .none kV14 dc14 pm14 an14 cd14 ct14), sl14⟩) (c14 : PySem.W.codeIn K cd14 "law" = true) (k14 : PySem.W.keepIn K (.ref f14) = true)
    (z_abs : PySem.W.nsIn K mainGlobals "abs" = some none)
    (z_all : PySem.W.nsIn K mainGlobals "all" = some none)
    (z_bool : PySem.W.nsIn K mainGlobals "bool" = some none)
    (z_int : PySem.W.nsIn K mainGlobals "int" = some none)
    (z_isinstance : PySem.W.nsIn K mainGlobals "isinstance" = some none)
    (z_len : PySem.W.nsIn K mainGlobals "len" = some none)
    (z_list : PySem.W.nsIn K mainGlobals "list" = some none)
    (z_max : PySem.W.nsIn K mainGlobals "max" = some none)
    (z_min : PySem.W.nsIn K mainGlobals "min" = some none)
    (z_range : PySem.W.nsIn K mainGlobals "range" = some none)
    (z_str : PySem.W.nsIn K mainGlobals "str" = some none)
    (z_tuple : PySem.W.nsIn K mainGlobals "tuple" = some none)
    {k_MOST_NOUNS : Tok} (m_MOST_NOUNS : PySem.W.nsIn K mainGlobals "MOST_NOUNS" = some (some (.int 4 k_MOST_NOUNS)))
    {k_MOST_VERBS : Tok} (m_MOST_VERBS : PySem.W.nsIn K mainGlobals "MOST_VERBS" = some (some (.int 2 k_MOST_VERBS)))
    : ∃ fd : FuncData, (∀ (s : Shared) (v : Value), BindsTo s fd ⟨[v], []⟩ [("script", v)]) ∧ ∀ base : Heap, K.In base → base.Ns mainGlobals mg → FnOk l.prog w K mg base CX0 6 fa fd ["script"] (splaw K) := by
  have e := hfa.symm.trans (PySem.W.mg_of X G a14)
  cases e
  have F1 := fun_mk (st := sis_integer) l1 c1 k1
  have F2 := fun_mk (st := sis_noun) l2 c2 k2
  have F3 := fun_mk (st := sis_verb) l3 c3 k3
  have F4 := fun_mk (st := sis_signature) l4 c4 k4
  have F5 := fun_mk (st := scheck_signature) l5 c5 k5
  have F6 := fun_mk (st := s_is_kind) l6 c6 k6
  have F7 := fun_mk (st := s_is_mark_rest) l7 c7 k7
  have F8 := fun_mk (st := sis_kind) l8 c8 k8
  have F9 := fun_mk (st := s_law_stream) l9 c9 k9
  have F10 := fun_mk (st := s_law_next) l10 c10 k10
  have F11 := fun_mk (st := s_law_is_integer) l11 c11 k11
  have F12 := fun_mk (st := s_law_equal) l12 c12 k12
  have F13 := fun_mk (st := s_law_some_kind) l13 c13 k13
  have F14 := fun_mk (st := slaw) l14 c14 k14
  have b1 := F1.binds (ps := ["value", "least", "most"]) fun _ _ _ _ _ _ us hl => match us, hl with | [_, _, _], _ => rfl
  have b2 := F2.binds (ps := ["signature", "value"]) fun _ _ _ _ _ _ us hl => match us, hl with | [_, _], _ => rfl
  have b3 := F3.binds (ps := ["signature", "value"]) fun _ _ _ _ _ _ us hl => match us, hl with | [_, _], _ => rfl
  have b4 := F4.binds (ps := ["value"]) fun _ _ _ _ _ _ us hl => match us, hl with | [_], _ => rfl
  have b5 := F5.binds (ps := ["signature"]) fun _ _ _ _ _ _ us hl => match us, hl with | [_], _ => rfl
  have b6 := F6.binds (ps := ["signature", "value"]) fun _ _ _ _ _ _ us hl => match us, hl with | [_, _], _ => rfl
  have b7 := F7.binds (ps := ["signature", "rest"]) fun _ _ _ _ _ _ us hl => match us, hl with | [_, _], _ => rfl
  have b8 := F8.binds (ps := ["signature", "value"]) fun _ _ _ _ _ _ us hl => match us, hl with | [_, _], _ => rfl
  have b9 := F9.binds (ps := ["script"]) fun _ _ _ _ _ _ us hl => match us, hl with | [_], _ => rfl
  have b10 := F10.binds (ps := ["stream", "many"]) fun _ _ _ _ _ _ us hl => match us, hl with | [_, _], _ => rfl
  have b11 := F11.binds (ps := ["actual"]) fun _ _ _ _ _ _ us hl => match us, hl with | [_], _ => rfl
  have b12 := F12.binds (ps := ["actual", "due"]) fun _ _ _ _ _ _ us hl => match us, hl with | [_, _], _ => rfl
  have b13 := F13.binds (ps := ["stream", "signature"]) fun _ _ _ _ _ _ us hl => match us, hl with | [_, _], _ => rfl
  have T : Txt K mg := ⟨f1, _, F1, PySem.W.mg_of X G a1, b1, f2, _, F2, PySem.W.mg_of X G a2, b2, f3, _, F3, PySem.W.mg_of X G a3, b3, f4, _, F4, PySem.W.mg_of X G a4, b4, f5, _, F5, PySem.W.mg_of X G a5, b5, f6, _, F6, PySem.W.mg_of X G a6, b6, f7, _, F7, PySem.W.mg_of X G a7, b7, f8, _, F8, PySem.W.mg_of X G a8, b8, f9, _, F9, PySem.W.mg_of X G a9, b9, f10, _, F10, PySem.W.mg_of X G a10, b10, f11, _, F11, PySem.W.mg_of X G a11, b11, f12, _, F12, PySem.W.mg_of X G a12, b12, f13, _, F13, PySem.W.mg_of X G a13, b13, PySem.W.mg_none_of X G z_abs, PySem.W.mg_none_of X G z_all, PySem.W.mg_none_of X G z_bool, PySem.W.mg_none_of X G z_int, PySem.W.mg_none_of X G z_isinstance, PySem.W.mg_none_of X G z_len, PySem.W.mg_none_of X G z_list, PySem.W.mg_none_of X G z_max, PySem.W.mg_none_of X G z_min, PySem.W.mg_none_of X G z_range, PySem.W.mg_none_of X G z_str, PySem.W.mg_none_of X G z_tuple, k_MOST_NOUNS, PySem.W.mg_of X G m_MOST_NOUNS, k_MOST_VERBS, PySem.W.mg_of X G m_MOST_VERBS⟩
  exact ⟨PySem.W.fnOf "law" "law" (defArgs slaw) (defBody slaw) (defScope slaw) .none kV14 dc14 pm14 an14 cd14 ct14, fun s v => .of_eq rfl, fun base _ _ => ok_law F14 T⟩
end V20
open PySem PySem.W PyProof.Rows in
set_option maxRecDepth 100000 in
set_option maxHeartbeats 0 in
theorem PySem.Challenge.cw_allsomeno_k20_forms_of_kinds_holds : PySem.Challenge.rw_allsomeno_k20_forms_of_kinds.Holds := by
  w_on; o_law; k_head; (case hw => w_witness2)
  k_fill
  refine L2.walk_of (l := PySem.Challenge.rw_allsomeno_k20_forms_of_kinds) (n := 63) (k := 6) (x := "script") (CX := fun _ => L2.CX0) (sp := fun w => V20.splaw _) rfl (by decide) rfl ⟨rfl, by decide, by decide⟩ (fun w h Y => PySem.W.kIn_of Y) ?F (fun _ _ a ns hl _ hS => ⟨a, ns, rfl, hS, hl, fun _ => rfl⟩) (fun _ _ _ _ _ h => h)
  case F =>
    intro w mg fa h KX G hmg
    refine' V20.all_mk KX G hmg ?a1 ?l1 ?c1 ?k1 ?a2 ?l2 ?c2 ?k2 ?a3 ?l3 ?c3 ?k3 ?a4 ?l4 ?c4 ?k4 ?a5 ?l5 ?c5 ?k5 ?a6 ?l6 ?c6 ?k6 ?a7 ?l7 ?c7 ?k7 ?a8 ?l8 ?c8 ?k8 ?a9 ?l9 ?c9 ?k9 ?a10 ?l10 ?c10 ?k10 ?a11 ?l11 ?c11 ?k11 ?a12 ?l12 ?c12 ?k12 ?a13 ?l13 ?c13 ?k13 ?a14 ?l14 ?c14 ?k14 ?z_abs ?z_all ?z_bool ?z_int ?z_isinstance ?z_len ?z_list ?z_max ?z_min ?z_range ?z_str ?z_tuple ?m_MOST_NOUNS ?m_MOST_VERBS
    (case a1 => k_is); (case l1 => k_is); (case c1 => k_is); (case k1 => k_is); (case a2 => k_is); (case l2 => k_is); (case c2 => k_is); (case k2 => k_is); (case a3 => k_is); (case l3 => k_is); (case c3 => k_is); (case k3 => k_is); (case a4 => k_is); (case l4 => k_is); (case c4 => k_is); (case k4 => k_is); (case a5 => k_is); (case l5 => k_is); (case c5 => k_is); (case k5 => k_is); (case a6 => k_is); (case l6 => k_is); (case c6 => k_is); (case k6 => k_is); (case a7 => k_is); (case l7 => k_is); (case c7 => k_is); (case k7 => k_is); (case a8 => k_is); (case l8 => k_is); (case c8 => k_is); (case k8 => k_is); (case a9 => k_is); (case l9 => k_is); (case c9 => k_is); (case k9 => k_is); (case a10 => k_is); (case l10 => k_is); (case c10 => k_is); (case k10 => k_is); (case a11 => k_is); (case l11 => k_is); (case c11 => k_is); (case k11 => k_is); (case a12 => k_is); (case l12 => k_is); (case c12 => k_is); (case k12 => k_is); (case a13 => k_is); (case l13 => k_is); (case c13 => k_is); (case k13 => k_is); (case a14 => k_is); (case l14 => k_is); (case c14 => k_is); (case k14 => k_is); (case z_abs => k_is); (case z_all => k_is); (case z_bool => k_is); (case z_int => k_is); (case z_isinstance => k_is); (case z_len => k_is); (case z_list => k_is); (case z_max => k_is); (case z_min => k_is); (case z_range => k_is); (case z_str => k_is); (case z_tuple => k_is); (case m_MOST_NOUNS => k_is); (case m_MOST_VERBS => k_is)
