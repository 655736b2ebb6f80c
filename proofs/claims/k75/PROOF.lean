import PyProof.Rows.All
import Wide.All
import OpenK.AllK
import Wide.FinOn
import HandS.ForMost
import HandS.Flow
import HandS.Defaults
import HandS.Style
import HandS.IsInst
import HandS.StrMore
import HandS.ReplaceList
import HandS.Deep
import HandS.Conv
import HandS.More
import PyProof.ToksMono
import HandS.ExpandTabs
import HandS.Codes
import HandS.SortKw
import KE.KMinKey
import KE.KUnpackStar
import HandS.List
import HandS.MakeKwOnly
import HandS.TryOnly
import PySem.Challenge.RW_promptyard_k75_error_texts
set_option Elab.async false
set_option linter.all false
set_option maxRecDepth 100000
namespace Pq
open PySem L2 TL PyProof.Rows
def top (i : Nat) : Stmt := PySem.Challenge.pw_promptyard_k75_error_texts.main.body.getD i (.Pass ⟨0, 0, 0, 0⟩)
-- def kept_lines at top 6
abbrev s_kept_lines : Stmt := top 6
theorem sc_kept_lines : FnScope ["text", "lines", "rest", "kept", "line"] ["text"] (defScope s_kept_lines) := ⟨rfl, rfl, rfl, by decide +kernel, rfl, by decide +kernel, by decide +kernel⟩
-- cells []
-- def lines_of at top 7
abbrev s_lines_of : Stmt := top 7
theorem sc_lines_of : FnScope ["text", "line"] ["text"] (defScope s_lines_of) := ⟨rfl, rfl, rfl, by decide +kernel, rfl, by decide +kernel, by decide +kernel⟩
-- cells []
-- def fed at top 8
abbrev s_fed : Stmt := top 8
theorem sc_fed : FnScope ["text"] ["text"] (defScope s_fed) := ⟨rfl, rfl, rfl, by decide +kernel, rfl, by decide +kernel, by decide +kernel⟩
-- cells []
-- def indent_of at top 9
abbrev s_indent_of : Stmt := top 9
theorem sc_indent_of : FnScope ["line"] ["line"] (defScope s_indent_of) := ⟨rfl, rfl, rfl, by decide +kernel, rfl, by decide +kernel, by decide +kernel⟩
-- cells []
-- def is_blank at top 12
abbrev s_is_blank : Stmt := top 12
theorem sc_is_blank : FnScope ["line"] ["line"] (defScope s_is_blank) := ⟨rfl, rfl, rfl, by decide +kernel, rfl, by decide +kernel, by decide +kernel⟩
-- cells []
-- def words_of at top 13
abbrev s_words_of : Stmt := top 13
theorem sc_words_of : FnScope ["text", "spaced", "word"] ["text"] (defScope s_words_of) := ⟨rfl, rfl, rfl, by decide +kernel, rfl, by decide +kernel, by decide +kernel⟩
-- cells []
-- def begins at top 18
abbrev s_begins : Stmt := top 18
theorem sc_begins : FnScope ["line", "prompt"] ["line", "prompt"] (defScope s_begins) := ⟨rfl, rfl, rfl, by decide +kernel, rfl, by decide +kernel, by decide +kernel⟩
-- cells []
-- def cuts_of at top 19
abbrev s_cuts_of : Stmt := top 19
theorem sc_cuts_of : FnScope ["lines", "cuts", "at", "middle", "end"] ["lines"] (defScope s_cuts_of) := ⟨rfl, rfl, rfl, by decide +kernel, rfl, by decide +kernel, by decide +kernel⟩
-- cells []
-- def behind_source at top 20
abbrev s_behind_source : Stmt := top 20
theorem sc_behind_source : FnScope ["lines", "at"] ["lines", "at"] (defScope s_behind_source) := ⟨rfl, rfl, rfl, by decide +kernel, rfl, by decide +kernel, by decide +kernel⟩
-- cells []
-- def behind_expected at top 21
abbrev s_behind_expected : Stmt := top 21
theorem sc_behind_expected : FnScope ["lines", "at"] ["lines", "at"] (defScope s_behind_expected) := ⟨rfl, rfl, rfl, by decide +kernel, rfl, by decide +kernel, by decide +kernel⟩
-- cells []
-- def refuse_wrong_lines at top 22
abbrev s_refuse_wrong_lines : Stmt := top 22
theorem sc_refuse_wrong_lines : FnScope ["lines", "cut", "start", "middle", "end", "indent", "behind_prompt", "at"] ["lines", "cut"] (defScope s_refuse_wrong_lines) := ⟨rfl, rfl, rfl, by decide +kernel, rfl, by decide +kernel, by decide +kernel⟩
-- cells []
-- def refuse_wrong_indents at top 23
abbrev s_refuse_wrong_indents : Stmt := top 23
theorem sc_refuse_wrong_indents : FnScope ["lines", "start", "end", "ahead", "at"] ["lines", "start", "end", "ahead"] (defScope s_refuse_wrong_indents) := ⟨rfl, rfl, rfl, by decide +kernel, rfl, by decide +kernel, by decide +kernel⟩
-- cells []
-- def is_flag at top 26
abbrev s_is_flag : Stmt := top 26
theorem sc_is_flag : FnScope ["thing"] ["thing"] (defScope s_is_flag) := ⟨rfl, rfl, rfl, by decide +kernel, rfl, by decide +kernel, by decide +kernel⟩
-- cells []
-- def require_flags at top 27
abbrev s_require_flags : Stmt := top 27
theorem sc_require_flags : FnScope ["flags", "thing"] ["flags"] (defScope s_require_flags) := ⟨rfl, rfl, rfl, by decide +kernel, rfl, by decide +kernel, by decide +kernel⟩
-- cells []
-- def directive_of at top 30
abbrev s_directive_of : Stmt := top 30
theorem sc_directive_of : FnScope ["line", "at"] ["line"] (defScope s_directive_of) := ⟨rfl, rfl, rfl, by decide +kernel, rfl, by decide +kernel, by decide +kernel⟩
-- cells []
-- def directive_words at top 31
abbrev s_directive_words : Stmt := top 31
theorem sc_directive_words : FnScope ["line"] ["line"] (defScope s_directive_words) := ⟨rfl, rfl, rfl, by decide +kernel, rfl, by decide +kernel, by decide +kernel⟩
-- cells []
-- def options_of at top 33
abbrev s_options_of : Stmt := top 33
theorem sc_options_of : FnScope ["source", "number", "options", "line", "word"] ["source", "number"] (defScope s_options_of) := ⟨rfl, rfl, rfl, by decide +kernel, rfl, by decide +kernel, by decide +kernel⟩
-- cells []
-- def bare_of at top 34
abbrev s_bare_of : Stmt := top 34
theorem sc_bare_of : FnScope ["source", "line"] ["source"] (defScope s_bare_of) := ⟨rfl, rfl, rfl, by decide +kernel, rfl, by decide +kernel, by decide +kernel⟩
-- cells []
-- def bare_line at top 35
abbrev s_bare_line : Stmt := top 35
theorem sc_bare_line : FnScope ["line"] ["line"] (defScope s_bare_line) := ⟨rfl, rfl, rfl, by decide +kernel, rfl, by decide +kernel, by decide +kernel⟩
-- cells []
-- def is_remark at top 36
abbrev s_is_remark : Stmt := top 36
theorem sc_is_remark : FnScope ["source", "line"] ["source"] (defScope s_is_remark) := ⟨rfl, rfl, rfl, by decide +kernel, rfl, by decide +kernel, by decide +kernel⟩
-- cells []
-- def widened at top 42
abbrev s_widened : Stmt := top 42
theorem sc_widened : FnScope ["text"] ["text"] (defScope s_widened) := ⟨rfl, rfl, rfl, by decide +kernel, rfl, by decide +kernel, by decide +kernel⟩
-- cells []
-- def levelled at top 43
abbrev s_levelled : Stmt := top 43
theorem sc_levelled : FnScope ["text", "lines", "least", "line"] ["text"] (defScope s_levelled) := ⟨rfl, rfl, rfl, by decide +kernel, rfl, by decide +kernel, by decide +kernel⟩
-- cells ['least']
-- def parsed at top 44
abbrev s_parsed : Stmt := top 44
theorem sc_parsed : FnScope ["text", "level", "kept", "lines", "pieces", "behind", "cut"] ["text"] (defScope s_parsed) := ⟨rfl, rfl, rfl, by decide +kernel, rfl, by decide +kernel, by decide +kernel⟩
-- cells []
-- def piece_at at top 45
abbrev s_piece_at : Stmt := top 45
theorem sc_piece_at : FnScope ["lines", "cut", "start", "middle", "end", "indent", "source", "want", "options", "line"] ["lines", "cut"] (defScope s_piece_at) := ⟨rfl, rfl, rfl, by decide +kernel, rfl, by decide +kernel, by decide +kernel⟩
-- cells ['indent']
-- def examples_of at top 46
abbrev s_examples_of : Stmt := top 46
theorem sc_examples_of : FnScope ["text", "piece"] ["text"] (defScope s_examples_of) := ⟨rfl, rfl, rfl, by decide +kernel, rfl, by decide +kernel, by decide +kernel⟩
-- cells []
-- def error_of at top 47
abbrev s_error_of : Stmt := top 47
theorem sc_error_of : FnScope ["want", "lines", "at"] ["want"] (defScope s_error_of) := ⟨rfl, rfl, rfl, by decide +kernel, rfl, by decide +kernel, by decide +kernel⟩
-- cells []
-- def is_word_sign at top 48
abbrev s_is_word_sign : Stmt := top 48
theorem sc_is_word_sign : FnScope ["sign"] ["sign"] (defScope s_is_word_sign) := ⟨rfl, rfl, rfl, by decide +kernel, rfl, by decide +kernel, by decide +kernel⟩
-- cells []
-- def _law_draws at top 50
abbrev s_law_draws : Stmt := top 50
theorem sc_law_draws : FnScope ["script", "item"] ["script"] (defScope s_law_draws) := ⟨rfl, rfl, rfl, by decide +kernel, rfl, by decide +kernel, by decide +kernel⟩
-- cells []
-- def _law_mixed at top 51
abbrev s_law_mixed : Stmt := top 51
theorem sc_law_mixed : FnScope ["seed", "k", "first"] ["seed", "k"] (defScope s_law_mixed) := ⟨rfl, rfl, rfl, by decide +kernel, rfl, by decide +kernel, by decide +kernel⟩
-- cells []
-- def _law_take at top 52
abbrev s_law_take : Stmt := top 52
theorem sc_law_take : FnScope ["draws", "size", "drawn", "seed", "reach"] ["draws", "size"] (defScope s_law_take) := ⟨rfl, rfl, rfl, by decide +kernel, rfl, by decide +kernel, by decide +kernel⟩
-- cells []
-- def _law_same0 at top 53
abbrev s_law_same0 : Stmt := top 53
theorem sc_law_same0 : FnScope ["found", "due", "one", "two"] ["found", "due"] (defScope s_law_same0) := ⟨rfl, rfl, rfl, by decide +kernel, rfl, by decide +kernel, by decide +kernel⟩
-- cells []
-- def _law_same at top 53
abbrev s_law_same : Stmt := top 53
theorem sc_law_same : FnScope ["found", "due", "one", "two"] ["found", "due"] (defScope s_law_same) := ⟨rfl, rfl, rfl, by decide +kernel, rfl, by decide +kernel, by decide +kernel⟩
-- cells []
-- def _law_pick at top 54
abbrev s_law_pick : Stmt := top 54
theorem sc_law_pick : FnScope ["draws", "things"] ["draws", "things"] (defScope s_law_pick) := ⟨rfl, rfl, rfl, by decide +kernel, rfl, by decide +kernel, by decide +kernel⟩
-- cells []
-- def _law_error at top 55
abbrev s_law_error : Stmt := top 55
theorem sc_law_error : FnScope ["lines", "heads", "at", "each"] ["lines"] (defScope s_law_error) := ⟨rfl, rfl, rfl, by decide +kernel, rfl, by decide +kernel, by decide +kernel⟩
-- cells []
-- def _law_head at top 56
abbrev s_law_head : Stmt := top 56
theorem sc_law_head : FnScope ["draws", "heads", "some"] ["draws"] (defScope s_law_head) := ⟨rfl, rfl, rfl, by decide +kernel, rfl, by decide +kernel, by decide +kernel⟩
-- cells []
-- def law at top 57
abbrev s_law : Stmt := top 57
theorem sc_law : FnScope ["script", "draws", "turn", "lines", "k", "some", "end", "due", "want", "found", "line", "one"] ["script"] (defScope s_law) := ⟨rfl, rfl, rfl, by decide +kernel, rfl, by decide +kernel, by decide +kernel⟩
-- cells []
-- def Example_init at top 40
abbrev s_Example_init : Stmt := inClass (top 40) 0
theorem sc_Example_init : FnScope ["self", "source", "want", "error", "line", "indent", "options", "told"] ["self", "source", "want", "error", "line", "indent", "options"] (defScope s_Example_init) := ⟨rfl, rfl, rfl, by decide +kernel, rfl, by decide +kernel, by decide +kernel⟩
-- cells []
def v_FLAGS : List Str := ["DONT_ACCEPT_TRUE_FOR_1", "DONT_ACCEPT_BLANKLINE", "NORMALIZE_WHITESPACE", "ELLIPSIS", "SKIP", "IGNORE_EXCEPTION_DETAIL", "REPORT_ONLY_FIRST_FAILURE", "FAIL_FAST"]
def v_HEADERS : List Str := ["Traceback (most recent call last):", "Traceback (innermost last):"]

/-! ### small words -/
theorem same_new {H : Hp} {p : Addr} {o : HO} (h : H p = none) : Same H (upd H p o) := fun b x e => by
  rw [upd_ne (ne_of_none e h)]
  exact e
theorem line_of {n : Nat} (h : n ≤ 1000000) : n ≤ sizeLine := Nat.le_trans h (by decide)
/-- a def of the text, as its callers see it -/
structure Own (P : Program) (w : World) (K : PySem.W.Frag) (mg : Str → Option Value) (base : Heap) (x : Str) (k : Nat) (ps : List Str) (dvs : List V) (sp : Sp) : Prop where
  ex : ∃ f fd ds, FnOk P w K mg base CX0 k f fd ps sp ∧ mg x = some (.ref f) ∧ PySem.W.keepIn K (.ref f) = true ∧ Binds K fd ps ds ∧ Vals dvs ds
section
variable {X : Cx} {x : Str} {k : Nat} {ps : List Str} {dvs : List V} {sp : Sp} {e : Expr} {es : List Expr} {t : TA} {p pos : Pos}
theorem Own.mk' {P : Program} {w : World} {K : PySem.W.Frag} {mg : Str → Option Value} {base : Heap} {f : Addr} {fd : FuncData} {ds : List Value} (a : FnOk P w K mg base CX0 k f fd ps sp) (b : mg x = some (.ref f)) (c : PySem.W.keepIn K (.ref f) = true) (d : Binds K fd ps ds) (v : Vals dvs ds) : Own P w K mg base x k ps dvs sp := ⟨_, _, _, a, b, c, d, v⟩
theorem pe_own (O : Own X.prog X.w X.K X.mg X.base x k ps dvs sp) (hr : Room k X.A) (hg : Gl X x) (ha : PA X (e :: es) t) (hdb : (x == ("__debug__" : Str)) = false := by decide) (he : starEach (e :: es) X.env = (false, eval e X.env) :: starEach es X.env := by rfl) (hpl : (backTo pos (starEach es X.env)).any (·.1) = false := by rfl) :
    PE X (.Call (.Name x p) (e :: es) [] pos) (tCall sp dvs E0 t) := by
  obtain ⟨f, fd, ds, F, hm, hk, hb, hd⟩ := O.ex
  exact pe_call F hr hg hm hk hb hd pass0 ha hdb he hpl
theorem pe_own0 (O : Own X.prog X.w X.K X.mg X.base x k ps dvs sp) (hr : Room k X.A) (hg : Gl X x) (hdb : (x == ("__debug__" : Str)) = false := by decide) :
    PE X (.Call (.Name x p) [] [] pos) (tCall sp dvs E0 tNil) := by
  obtain ⟨f, fd, ds, F, hm, hk, hb, hd⟩ := O.ex
  exact pe_call0 F hr hg hm hk hb hd pass0 hdb
/-- a statement, a word about what stands behind it, the rest -/
def tCut (t u : TS) : TS := fun D σ H => ∃ Mid : L2.St → Hp → Prop, t { D with nx := Mid } σ H ∧ ∀ σ' H', Mid σ' H' → u D σ' H'
theorem pss_cut {st : Stmt} {rest : List Stmt} {t u : TS} (h1 : PS X st t) (h2 : PSs X rest u) : PSs X (st :: rest) (tCut t u) := by
  refine ⟨fun pins s σ H D I h => ?_⟩
  obtain ⟨Mid, hm, hu⟩ := h
  refine wpAny_execs_cons (thn (h1.run pins s σ H { D with nx := Mid } I hm) fun f s1 q => ?_)
  cases f with
  | next =>
    obtain ⟨σ', H', I', q⟩ := q
    exact h2.run pins s1 σ' H' D I' (hu σ' H' q)
  | ret v => exact q
  | brk => exact q
  | cont => exact q
end
theorem int_at {ns : List Int} {i : Nat} {x : V} (h : (ns.map V.int)[i]? = some x) : ∃ z, x = V.int z := by
  rw [List.getElem?_map] at h
  cases e : ns[i]? with
  | none =>
    rw [e] at h
    cases h
  | some z =>
    rw [e] at h
    exact ⟨z, (Option.some.inj h).symm⟩

/-! ### steps that want one token out: the judgements of the layer from states with a token -/
section
variable {α : Type} {M : Model} {A : Around} {s : Shared}
theorem thnK {t : Sem α} {Q Q' : α → Shared → Prop} {E : Value → Shared → Prop} (hk : 1 ≤ s.toks) (h : wpAny M A t Q E s) (hQ : ∀ a s', 1 ≤ s'.toks → Q a s' → Q' a s') : wpAny M A t Q' E s :=
  wpAny_mono (PySem.wpAny_toks_of hk h) (fun a s' x => hQ a s' x.1 x.2) fun _ _ x => x.2
end
structure ET (X : Cx) (e : Expr) (t : TE) : Prop where
  run : ∀ (pins : List (Addr × Obj)) (s : Shared) (σ : L2.St) (H : Hp) (Q : VK), 1 ≤ s.toks → Inv X pins σ H s → t σ H Q → wpAny (model X.prog X.w) X.A (eval e X.env) (EP X pins σ Q) X.xe s
structure TT' (X : Cx) (e : Expr) (t : TT) : Prop where
  run : ∀ (pins : List (Addr × Obj)) (s : Shared) (σ : L2.St) (H : Hp) (Q : Bool → Hp → Prop), 1 ≤ s.toks → Inv X pins σ H s → t σ H Q → wpAny (model X.prog X.w) X.A (isTrue e X.env (eval e X.env)) (TP X pins σ Q) X.xe s
structure WT (X : Cx) (e : Expr) (t : TT) : Prop where
  run : ∀ (whole : Sem Value) (pins : List (Addr × Obj)) (s : Shared) (σ : L2.St) (H : Hp) (Q : Bool → Hp → Prop), 1 ≤ s.toks → Inv X pins σ H s → t σ H Q → wpAny (model X.prog X.w) X.A (isTrue e X.env whole) (TP X pins σ Q) X.xe s
structure AT (X : Cx) (es : List Expr) (t : TA) : Prop where
  run : ∀ (pos : Pos) (pins : List (Addr × Obj)) (s : Shared) (σ : L2.St) (H : Hp) (Q : List V → Hp → Prop), 1 ≤ s.toks → Inv X pins σ H s → t σ H Q → wpAny (model X.prog X.w) X.A (spliced (backTo pos (starEach es X.env))) (AP X pins σ Q) X.xe s
structure ST (X : Cx) (st : Stmt) (t : TS) : Prop where
  run : ∀ (pins : List (Addr × Obj)) (s : Shared) (σ : L2.St) (H : Hp) (D : Ends), 1 ≤ s.toks → Inv X pins σ H s → t D σ H → wpAny (model X.prog X.w) X.A (exec st X.env) (SP X pins D) X.xe s
structure BT (X : Cx) (st : List Stmt) (t : TS) : Prop where
  run : ∀ (pins : List (Addr × Obj)) (s : Shared) (σ : L2.St) (H : Hp) (D : Ends), 1 ≤ s.toks → Inv X pins σ H s → t D σ H → wpAny (model X.prog X.w) X.A (execs st X.env) (SP X pins D) X.xe s
/-- the same, and behind it a token is out for sure -/
structure AK (X : Cx) (es : List Expr) (t : TA) : Prop where
  run : ∀ (pos : Pos) (pins : List (Addr × Obj)) (s : Shared) (σ : L2.St) (H : Hp) (Q : List V → Hp → Prop), Inv X pins σ H s → t σ H Q → wpAny (model X.prog X.w) X.A (spliced (backTo pos (starEach es X.env))) (fun us s' => 1 ≤ s'.toks ∧ AP X pins σ Q us s') X.xe s
structure EK (X : Cx) (e : Expr) (t : TE) : Prop where
  run : ∀ (pins : List (Addr × Obj)) (s : Shared) (σ : L2.St) (H : Hp) (Q : VK), Inv X pins σ H s → t σ H Q → wpAny (model X.prog X.w) X.A (eval e X.env) (fun u s' => 1 ≤ s'.toks ∧ EP X pins σ Q u s') X.xe s
structure SK (X : Cx) (st : Stmt) (t : TS) : Prop where
  run : ∀ (pins : List (Addr × Obj)) (s : Shared) (σ : L2.St) (H : Hp) (D : Ends), Inv X pins σ H s → t D σ H → wpAny (model X.prog X.w) X.A (exec st X.env) (fun f s' => 1 ≤ s'.toks ∧ SP X pins D f s') X.xe s
structure BK (X : Cx) (st : List Stmt) (t : TS) : Prop where
  run : ∀ (pins : List (Addr × Obj)) (s : Shared) (σ : L2.St) (H : Hp) (D : Ends), Inv X pins σ H s → t D σ H → wpAny (model X.prog X.w) X.A (execs st X.env) (fun f s' => 1 ≤ s'.toks ∧ SP X pins D f s') X.xe s
structure FnT (P : Program) (w : World) (K : PySem.W.Frag) (mg : Str → Option Value) (base : Heap) (CX : CXT) (k : Nat) (f : Addr) (fd : FuncData) (ps : List Str) (sp : Sp) : Prop where
  len : ∀ vs H Q E, sp vs H Q E → vs.length = ps.length
  run : ∀ (A : Around) (outer : List Env) (s : Shared) (H : Hp) (args : Args) (us : List Value) (vs : List V) (Q : VK) (E : XK), 1 ≤ s.toks → Room k A → Env0 P w K mg base A outer s H → BindsTo s fd args (ps.zip us) → Vals vs us → sp vs H Q E →
    codeAny (model P w) A (.call (.ref f) args) (CR CX outer P w H s Q E) s
structure FnK (P : Program) (w : World) (K : PySem.W.Frag) (mg : Str → Option Value) (base : Heap) (CX : CXT) (k : Nat) (f : Addr) (fd : FuncData) (ps : List Str) (sp : Sp) : Prop where
  len : ∀ vs H Q E, sp vs H Q E → vs.length = ps.length
  run : ∀ (A : Around) (outer : List Env) (s : Shared) (H : Hp) (args : Args) (us : List Value) (vs : List V) (Q : VK) (E : XK), Room k A → Env0 P w K mg base A outer s H → BindsTo s fd args (ps.zip us) → Vals vs us → sp vs H Q E →
    codeAny (model P w) A (.call (.ref f) args) (fun r s' => ((∃ e, r = .error e) ∨ 1 ≤ s'.toks) ∧ CR CX outer P w H s Q E r s') s
structure OwnT (P : Program) (w : World) (K : PySem.W.Frag) (mg : Str → Option Value) (base : Heap) (x : Str) (k : Nat) (ps : List Str) (dvs : List V) (sp : Sp) : Prop where
  ex : ∃ f fd ds, FnT P w K mg base CX0 k f fd ps sp ∧ mg x = some (.ref f) ∧ PySem.W.keepIn K (.ref f) = true ∧ Binds K fd ps ds ∧ Vals dvs ds
structure OwnK (P : Program) (w : World) (K : PySem.W.Frag) (mg : Str → Option Value) (base : Heap) (x : Str) (k : Nat) (ps : List Str) (dvs : List V) (sp : Sp) : Prop where
  ex : ∃ f fd ds, FnK P w K mg base CX0 k f fd ps sp ∧ mg x = some (.ref f) ∧ PySem.W.keepIn K (.ref f) = true ∧ Binds K fd ps ds ∧ Vals dvs ds
section
variable {X : Cx} {a b c e o : Expr} {es rest' : List Expr} {ta tb tc te to : TE} {uA uB uC : TT} {tx : TA} {pos : Pos} {st : Stmt} {rest bd bd' : List Stmt} {t u : TS}
theorem ET.of (h : PE X e te) : ET X e te := ⟨fun pins s σ H Q _ I q => h.run pins s σ H Q I q⟩
theorem TT'.of (h : PT X e uA) : TT' X e uA := ⟨fun pins s σ H Q _ I q => h.run pins s σ H Q I q⟩
theorem WT.of (h : PW X e uA) : WT X e uA := ⟨fun wh pins s σ H Q _ I q => h.run wh pins s σ H Q I q⟩
theorem WT.pt (h : WT X e uA) : TT' X e uA := ⟨h.run _⟩
theorem AT.of (h : PA X es tx) : AT X es tx := ⟨fun pos pins s σ H Q _ I q => h.run pos pins s σ H Q I q⟩
theorem ST.of (h : PS X st t) : ST X st t := ⟨fun pins s σ H D _ I q => h.run pins s σ H D I q⟩
theorem BT.of (h : PSs X bd t) : BT X bd t := ⟨fun pins s σ H D _ I q => h.run pins s σ H D I q⟩
/-- arguments -/
theorem at_cons (ha : ET X e te) (hr : AT X es tx) (hs : starEach (e :: es) X.env = (false, eval e X.env) :: starEach es X.env := by rfl) : AT X (e :: es) (tCons te tx) := by
  refine ⟨fun pos pins s σ H Q hk I h => ?_⟩
  rw [hs]
  show wpAny _ _ (spliced ((false, eval e X.env) :: backTo pos (starEach es X.env))) _ _ s
  refine Calls.spliced_cons (thnK hk (ha.run pins s σ H _ hk I h) fun v s1 k1 ⟨x, H1, I1, r1, q1⟩ => ?_)
  exact thn (hr.run pos pins s1 σ H1 _ k1 I1 q1) fun us s2 ⟨xs, H2, I2, r2, q2⟩ => ⟨x :: xs, H2, I2, .cons r1 r2, q2⟩
theorem at_nil : AT X [] tNil := .of pa_nil
theorem binK (ha : ET X a ta) (hb : ET X b tb) {pins : List (Addr × Obj)} {s : Shared} {σ : L2.St} {H : Hp} {R : V → V → Hp → Prop} (hk : 1 ≤ s.toks) (I : Inv X pins σ H s)
    (h : ta σ H fun x H1 => tb σ H1 fun y H2 => R x y H2) {Q : Value → Shared → Prop} {f : Value → Value → Sem Value}
    (hf : ∀ v u s2 x y H2, Inv X pins σ H2 s2 → RelV x v → RelV y u → R x y H2 → wpAny (model X.prog X.w) X.A (f v u) Q X.xe s2) :
    wpAny (model X.prog X.w) X.A (eval a X.env) (fun v s₁ => wpAny (model X.prog X.w) X.A (eval b X.env) (fun u s₂ => wpAny (model X.prog X.w) X.A (f v u) Q X.xe s₂) X.xe s₁) X.xe s := by
  refine thnK hk (ha.run pins s σ H _ hk I h) fun v s1 k1 ⟨x, H1, I1, r1, q1⟩ => ?_
  refine thn (hb.run pins s1 σ H1 _ k1 I1 q1) fun u s2 ⟨y, H2, I2, r2, q2⟩ => ?_
  exact hf v u s2 x y H2 I2 r1 r2 q2
theorem et_op {op : Operator} {r : R2} (ho : OpR X (binaryOp op) r) (ha : ET X a ta) (hb : ET X b tb) : ET X (.BinOp a op b pos) (tOp r ta tb) :=
  ⟨fun pins s σ H Q hk I h => wpAny_BinOp (binK ha hb hk I h fun v u s2 x y H2 I2 rx ry q => ho pins s2 σ H2 x y v u Q I2 rx ry q)⟩
theorem et_ix {r : R2} (hr : IxR X r) (ha : ET X a ta) (hb : ET X b tb) (hs : PlainIx b) : ET X (.Subscript a b pos) (tOp r ta tb) :=
  ⟨fun pins s σ H Q hk I h => Subscript_ (binK ha hb hk I h fun v u s2 x y H2 I2 rx ry q => hr a b pins s2 σ H2 x y v u Q I2 rx ry q (hs _ _))⟩
theorem et_cmpR {op : CmpOp} {r : R2} (ho : OpR X (compareOp op) r) (ha : ET X a ta) (hb : ET X b tb) (hm : behindInMarks op b = false) : ET X (.Compare a [op] [b] pos) (tOp r ta tb) :=
  ⟨fun pins s σ H Q hk I h => wpAny_Compare1 (binK ha hb hk I h fun v u s2 x y H2 I2 rx ry q => ho pins s2 σ H2 x y v u Q I2 rx ry q) hm⟩
theorem tt_cmpR {op : CmpOp} {r : R2} (ho : OpR X (compareOp op) r) (ha : ET X a ta) (hb : ET X b tb) (hm : behindInMarks op b = false) : TT' X (.Compare a [op] [b] pos) (tTest (tOp r ta tb)) := by
  refine ⟨fun pins s σ H Q hk I h => ?_⟩
  refine wpAny_isTrue_Compare1 (thnK hk (ha.run pins s σ H _ hk I h) fun v s1 k1 ⟨x, H1, I1, r1, q1⟩ => thn (hb.run pins s1 σ H1 _ k1 I1 q1) fun u s2 ⟨y, H2, I2, r2, q2⟩ =>
    thn (ho pins s2 σ H2 x y v u _ I2 r1 r2 q2) fun c s3 ⟨z, H3, I3, r3, k, e, q3⟩ => ?_) hm
  subst e
  cases r3
  exact wpAny_truthy_bool ⟨H3, I3, q3⟩
theorem tt_val (h : ET X e te) (he : ∀ whole, isTrue e X.env whole = (do let v ← whole; standAt e.pos; holding [v] (truthy v)) := by intro _; rfl) : TT' X e (tB te) := by
  refine ⟨fun pins s σ H Q hk I hw => ?_⟩
  refine isTrue_plain (thn (h.run pins s σ H _ hk I hw) fun v s1 ⟨x, H1, I1, r1, q1⟩ => ?_) (he _)
  obtain ⟨k, rfl, q⟩ := q1
  cases r1
  exact wpAny_truthy_bool ⟨H1, I1, q⟩
theorem tt_not (ha : TT' X a uA) : TT' X (.UnaryOp .Not a pos) (tNot uA) :=
  ⟨fun pins s σ H Q hk I h => isTrue_not (ha.run pins s σ H (fun c H1 => Q (!c) H1) hk I h)⟩
theorem wt_and1 (ha : TT' X a uA) : WT X (.BoolOp .And [a] pos) uA := by
  refine ⟨fun wh pins s σ H Q hk I h => ?_⟩
  refine isTrue_and (thn (ha.run pins s σ H Q hk I h) fun c s1 e => ?_)
  cases c with
  | true => exact isTrue_and_nil e
  | false => exact e
theorem wt_or1 (ha : TT' X a uA) : WT X (.BoolOp .Or [a] pos) uA := by
  refine ⟨fun wh pins s σ H Q hk I h => ?_⟩
  refine isTrue_or (thn (ha.run pins s σ H Q hk I h) fun c s1 e => ?_)
  cases c with
  | false => exact isTrue_or_nil e
  | true => exact e
theorem wt_and (ha : TT' X a uA) (hb : WT X (.BoolOp .And (b :: rest') pos) uB) : WT X (.BoolOp .And (a :: b :: rest') pos) (tAnd uA uB) := by
  refine ⟨fun wh pins s σ H Q hk I h => ?_⟩
  refine isTrue_and (thnK hk (ha.run pins s σ H _ hk I h) fun c s1 k1 ⟨H1, I1, q1⟩ => ?_)
  cases c with
  | true => exact hb.run wh pins s1 σ H1 Q k1 I1 q1
  | false => exact ⟨H1, I1, q1⟩
theorem wt_or (ha : TT' X a uA) (hb : WT X (.BoolOp .Or (b :: rest') pos) uB) : WT X (.BoolOp .Or (a :: b :: rest') pos) (tOr uA uB) := by
  refine ⟨fun wh pins s σ H Q hk I h => ?_⟩
  refine isTrue_or (thnK hk (ha.run pins s σ H _ hk I h) fun c s1 k1 ⟨H1, I1, q1⟩ => ?_)
  cases c with
  | true => exact ⟨H1, I1, q1⟩
  | false => exact hb.run wh pins s1 σ H1 Q k1 I1 q1
theorem et_one {op} (h : ET X a ta) : ET X (.BoolOp op [a] pos) ta := ⟨fun pins s σ H Q hk I hw => BoolOp_one (h.run pins s σ H Q hk I hw)⟩
theorem et_and (ha : ET X a ta) (hb : ET X (.BoolOp .And (b :: rest') pos) tb) : ET X (.BoolOp .And (a :: b :: rest') pos) (tAndV ta tb) := by
  refine ⟨fun pins s σ H Q hk I h => ?_⟩
  refine BoolOp_and (thnK hk (ha.run pins s σ H _ hk I h) fun v s1 k1 ⟨x, H1, I1, r1, q1⟩ => ?_)
  obtain ⟨c, rfl, q1⟩ := q1
  cases r1
  refine wpAny_truthy_bool ?_
  cases c with
  | true => exact hb.run pins s1 σ H1 Q k1 I1 q1
  | false => exact ⟨.bl false, H1, I1, rfl, q1⟩
theorem et_or (ha : ET X a ta) (hb : ET X (.BoolOp .Or (b :: rest') pos) tb) : ET X (.BoolOp .Or (a :: b :: rest') pos) (tOrV ta tb) := by
  refine ⟨fun pins s σ H Q hk I h => ?_⟩
  refine BoolOp_or (thnK hk (ha.run pins s σ H _ hk I h) fun v s1 k1 ⟨x, H1, I1, r1, q1⟩ => ?_)
  obtain ⟨c, rfl, q1⟩ := q1
  cases r1
  refine wpAny_truthy_bool ?_
  cases c with
  | false => exact hb.run pins s1 σ H1 Q k1 I1 q1
  | true => exact ⟨.bl true, H1, I1, rfl, q1⟩
theorem et_not (ha : ET X a ta) : ET X (.UnaryOp .Not a pos) (tNotV ta) := by
  refine ⟨fun pins s σ H Q hk I h => ?_⟩
  refine UnaryOp_ (thn (ha.run pins s σ H _ hk I h) fun v s1 ⟨x, H1, I1, r1, q1⟩ => ?_)
  obtain ⟨c, rfl, q1⟩ := q1
  cases r1
  exact not_of (wpAny_truthy_bool ⟨.bl (!c), H1, I1, rfl, q1⟩)
theorem et_ifExp (hc : TT' X c uC) (ha : ET X a ta) (hb : ET X b tb) : ET X (.IfExp c a b pos) (tIf uC ta tb) := by
  refine ⟨fun pins s σ H Q hk I h => ?_⟩
  refine wpAny_IfExp (thnK hk (hc.run pins s σ H _ hk I h) fun d s1 k1 ⟨H1, I1, q1⟩ => ?_)
  cases d with
  | true => exact ha.run pins s1 σ H1 Q k1 I1 q1
  | false => exact hb.run pins s1 σ H1 Q k1 I1 q1
theorem et_tup {x1} (h : AT X es tx) : ET X (.Tuple es x1 pos) (tTup tx) := by
  refine ⟨fun pins s σ H Q hk I hq => ?_⟩
  refine wpAny_Tuple_spliced (thn (h.run pos pins s σ H _ hk I hq) fun us s1 ⟨xs, H1, I1, r, z, q⟩ => ⟨by rw [← r.length]; exact z, ?_⟩)
  have hf : H1 s1.heap.objs.size = none := I1.hok.fresh (Nat.le_refl _)
  refine ⟨.ref s1.heap.objs.size, upd H1 s1.heap.objs.size (.tup xs), I1.laid (t' := s1.toks) (fun b u e => Heap.get?_push_of_some _ e) (Nat.le_refl _) ?_, rfl, q _ hf⟩
  exact ⟨z, us, r, ⟨_, Heap.get?_push_size _ rfl, rfl, _, rfl⟩⟩
theorem et_lst (h : AT X es tx) : ET X (.List es pos) (tLst tx) := by
  refine ⟨fun pins s σ H Q hk I hq => ?_⟩
  refine wpAny_List_spliced (thn (h.run pos pins s σ H _ hk I hq) fun us s1 ⟨xs, H1, I1, r, z, q⟩ => ⟨by rw [← r.length]; exact z, ?_⟩)
  have hf : H1 s1.heap.objs.size = none := I1.hok.fresh (Nat.le_refl _)
  refine ⟨.ref s1.heap.objs.size, upd H1 s1.heap.objs.size (.lst xs), I1.laid (t' := s1.toks) (fun b u e => Heap.get?_push_of_some _ e) (Nat.le_refl _) ?_, rfl, q _ hf⟩
  exact ⟨z, us, 0, r, Heap.get?_push_size _ rfl⟩
/-- a method of a built-in type -/
theorem et_bm {T id : String} {name : Str} {apos cpos : Pos} {r : V → List V → Hp → VK → Prop} (pa : PlainAttrs T) (slot : Slot T name id) (hty : typeOf (.builtin id) = pure (.type "method_descriptor")) (hm : MtR X id r) (ho : ET X o to) (ha : AT X (e :: es) tx)
    (hbase : attributeBase o name X.env (eval o X.env) = eval o X.env := by rfl)
    (hfew : ((backTo cpos (starEach (e :: es) X.env)).all (fun x => !x.1) && (backToKw cpos (keywordEach [] X.env)).all (fun x => x.1.isSome)
      && decide ((e :: es).length + ([] : List Keyword).length + (if ([] : List Keyword).isEmpty then 0 else 1) < 30)) = true := by rfl)
    (hline : (apos.endLine == cpos.line) = true := by rfl) (hs : starEach (e :: es) X.env = (false, eval e X.env) :: starEach es X.env := by rfl) (hplain : (backTo cpos (starEach es X.env)).any (·.1) = false := by rfl) :
    ET X (.Call (.Attribute o name apos) (e :: es) [] cpos) (tBM X.K T r to tx) := by
  refine ⟨fun pins s σ H Q hk I h => ?_⟩
  refine wpAny_Call_method_late hbase hfew hline rfl (thnK hk (ho.run pins s σ H _ hk I h) fun v s1 k1 ⟨x, H1, I1, r1, ty, q1⟩ => ?_)
  obtain ⟨h1, h2⟩ := tyV_is I1 r1 ty
  refine ⟨T, id, pa, slot, hty, h1, h2, ?_⟩
  have hA := ha.run cpos pins s1 σ H1 _ k1 I1 q1
  rw [hs] at hA ⊢
  refine Calls.callWith_builtin (by show (false || (backTo cpos (starEach es X.env)).any (·.1)) = false; rw [hplain] <;> rfl) (Calls.evalArgs_plain ?_)
  exact thn hA fun us s2 ⟨vs, H2, I2, r2, q2⟩ => hm pins s2 σ H2 x vs v us Q I2 r1 r2 q2
/-- statements -/
theorem st_expr (he : ET X e te) (hs : swapsWith e none pos.line X.env = pure false := by rfl) : ST X (.Expr e pos) (tDrop te) :=
  ⟨fun pins s σ H D hk I h => wpAny_Expr_any (thn (he.run pins s σ H _ hk I h) fun v s1 ⟨x, H1, I1, r1, q1⟩ => ⟨σ, H1, I1, q1⟩) I.quiet hs⟩
theorem st_ret (he : ET X e te) : ST X (.Return (some e) pos) (tRet te) :=
  ⟨fun pins s σ H D hk I h => wpAny_Return_some (thn (he.run pins s σ H _ hk I h) fun v s1 ⟨x, H1, I1, r1, q1⟩ => ⟨x, σ, H1, I1, r1, q1⟩)⟩
theorem st_if (hc : TT' X c uC) (ha : BT X bd t) (hb : BT X bd' u) : ST X (.If c bd bd' pos) (tIfS uC t u) := by
  refine ⟨fun pins s σ H D hk I h => ?_⟩
  refine wpAny_If (thnK hk (hc.run pins s σ H _ hk I h) fun d s1 k1 ⟨H1, I1, q1⟩ => ?_)
  cases d with
  | true => exact ha.run pins s1 σ H1 D k1 I1 q1
  | false => exact hb.run pins s1 σ H1 D k1 I1 q1
theorem st_asg {tg : Expr} {g : TG} (he : ET X e te) (hg : PG X tg g) (hs : swapsWithSole [tg] e pos.line X.env = pure false := by rfl) (hw : swappedStores [tg] e X.env = pure none := by rfl)
    (h1 : (assignEach [tg] X.env).map (·.2) = [assign tg X.env] := by rfl) : ST X (.Assign [tg] e pos) (tAsg te g) := by
  refine ⟨fun pins s σ H D hk I h => ?_⟩
  refine wpAny_Assign_stores (thn (he.run pins s σ H _ hk I h) fun v s1 ⟨x, H1, I1, r1, q1⟩ => ?_) hs hw
  rw [h1]
  exact thn (hg.run pins s1 σ H1 x v _ I1 r1 q1) fun _ s2 q => q
theorem st_set {i : Nat} {x : Str} {pos' : Pos} (hN : X.N.Nodup) (hi : X.N[i]? = some x) (hx : Loc X.env.scope x) (he : ET X e te) (hs : swapsWith e (some (.Name x pos')) pos.line X.env = pure false := by rfl) (hf : X.fn x = true ∨ X.env.scope.names.lookup x = some .local := by first | exact .inl rfl | exact .inr rfl | assumption) :
    ST X (.Assign [.Name x pos'] e pos) (tAsg te (gName i)) := by
  refine ⟨fun pins s σ H D hk I h => ?_⟩
  refine wpAny_Assign_Name (thn (he.run pins s σ H _ hk I h) fun v s1 ⟨y, H1, I1, r1, q1⟩ => ?_) hs
  exact store_ok I1 hN hi hx r1 (fun s2 I2 => ⟨_, H1, I2, q1⟩) hf
theorem bt_nil : BT X [] tNext := .of pss_nil
theorem bt_one (h1 : ST X st t) : BT X [st] t := by
  refine ⟨fun pins s σ H D hk I h => ?_⟩
  refine wpAny_execs_cons (thn (h1.run pins s σ H D hk I h) fun f s1 q => ?_)
  cases f with
  | next => exact wpAny_execs_nil q
  | ret v => exact q
  | brk => exact q
  | cont => exact q
theorem bt_cons (h1 : ST X st t) (h2 : BT X rest u) : BT X (st :: rest) (tSeq t u) := by
  refine ⟨fun pins s σ H D hk I h => ?_⟩
  refine wpAny_execs_cons (thnK hk (h1.run pins s σ H { D with nx := u D } hk I h) fun f s1 k1 q => ?_)
  cases f with
  | next =>
    obtain ⟨σ', H', I', q⟩ := q
    exact h2.run pins s1 σ' H' D k1 I' q
  | ret v => exact q
  | brk => exact q
  | cont => exact q
theorem bt_cut (h1 : ST X st t) (h2 : BT X rest u) : BT X (st :: rest) (tCut t u) := by
  refine ⟨fun pins s σ H D hk I h => ?_⟩
  obtain ⟨Mid, hm, hu⟩ := h
  refine wpAny_execs_cons (thnK hk (h1.run pins s σ H { D with nx := Mid } hk I hm) fun f s1 k1 q => ?_)
  cases f with
  | next =>
    obtain ⟨σ', H', I', q⟩ := q
    exact h2.run pins s1 σ' H' D k1 I' (hu σ' H' q)
  | ret v => exact q
  | brk => exact q
  | cont => exact q
/-- behind a statement that gives a token out -/
theorem pssk_cons (h1 : SK X st t) (h2 : BT X rest u) : PSs X (st :: rest) (tSeq t u) := by
  refine ⟨fun pins s σ H D I h => ?_⟩
  refine wpAny_execs_cons (thn (h1.run pins s σ H { D with nx := u D } I h) fun f s1 ⟨k1, q⟩ => ?_)
  cases f with
  | next =>
    obtain ⟨σ', H', I', q⟩ := q
    exact h2.run pins s1 σ' H' D k1 I' q
  | ret v => exact q
  | brk => exact q
  | cont => exact q
theorem st_for {iter tg : Expr} {wi : TI} {g : TG} {tb : TS} (hp : PassesOwn (model X.prog X.w) X.A X.env X.xe) (hc : X.calm = true) (hi : PI X tg iter wi) (hg : PG X tg g) (hb : BT X bd tb)
    (hs : ∀ x, foldedSetIterable iter X.env x = pure x := by intro _; rfl) : ST X (.For tg iter bd [] pos) (tFor wi g tb) := by
  refine ⟨fun pins s σ H D hk I h => ?_⟩
  refine wpAny_For (thnK hk (hi.run pins s σ H _ I h) fun v s1 k1 h1 => thnK k1 h1 fun itv s2 k2 h2 => ?_) hs
  obtain ⟨it, fp, tn, J, H2, e, I2, T, st2, f2, W, ⟨m0, w0⟩, turn⟩ := h2
  subst e
  have stat : ∀ {H' : Hp}, (∀ b ∈ fp, H' b = none) → ∀ b ∈ fp, FpOk X pins H' b := fun hn b hb => ⟨hn b hb, (f2 b hb).2⟩
  refine codeAny_forLoop_any (fun n s' => 1 ≤ s'.toks ∧ ∃ i σ' H', Inv X pins σ' H' s' ∧ tn i s'.heap ∧ (∀ b ∈ fp, H' b = none) ∧ W i n σ' H') ?_ m0 ⟨k2, 0, σ, H2, I2, st2, fun b hb => (f2 b hb).1, w0⟩
  rintro n s3 ⟨k3, i, σ3, H3, I3, st3, fr3, w3⟩
  rcases turn i n σ3 H3 w3 with ⟨stop, qn⟩ | ⟨go, N, hN, step⟩
  · refine wpAny_passesOwn hp (thn (T.done X rfl rfl rfl hc i pins s3 σ3 H3 X.xe I3 (stat fr3) st3 stop) fun r s4 ⟨hr, I4⟩ => ?_)
    subst hr
    exact wpAny_execs_nil ⟨σ3, H3, I4, qn⟩
  · refine wpAny_passesOwn hp (thnK k3 (T.item X rfl rfl rfl hc i pins s3 σ3 H3 X.xe I3 (stat fr3) st3 go) fun r s4 k4 ⟨u, hr, h4⟩ => ?_)
    subst hr
    refine wpAny_passesOwn hp (thnK k4 h4 fun _ s5 k5 ⟨x, H5, I5, r5, y5, st5, fr5⟩ => ?_)
    have I5' := I5.pinned (stat fr5) (T.obj _ _ st5)
    refine wpAny_passesOwn hp (thnK k5 (hg.run _ s5 σ3 H5 x u _ I5' r5 (step x H5 y5)) fun _ s6 k6 ⟨σ6, H6, I6, q6⟩ => ?_)
    refine wpAny_passesOwn hp (thnK k6 (hb.run _ s6 σ6 H6 _ k6 I6 q6) fun f s7 k7 q7 => ?_)
    have again : ∀ {σ7 : L2.St} {H7 : Hp}, Inv X (pins ++ pinsAt fp s5.heap) σ7 H7 s7 → N σ7 H7 → ∃ m, m < n ∧ 1 ≤ s7.toks ∧ ∃ i σ' H', Inv X pins σ' H' s7 ∧ tn i s7.heap ∧ (∀ b ∈ fp, H' b = none) ∧ W i m σ' H' := fun {σ7 H7} I7 n7 => by
      obtain ⟨m', hm, w7⟩ := hN σ7 H7 n7
      refine ⟨m', hm, k7, i + 1, σ7, H7, I7.unpinned, T.keep _ _ _ st5 fun b hb o e => (I7.pin (b, o) (List.mem_append_right _ (List.mem_append_right _ (mem_pinsAt hb e)))).1, fun b hb => ?_, w7⟩
      obtain ⟨o, e, d⟩ := T.obj _ _ st5 b hb
      exact (I7.pin (b, o) (List.mem_append_right _ (List.mem_append_right _ (mem_pinsAt hb e)))).2.1
    cases f with
    | next => obtain ⟨σ7, H7, I7, n7⟩ := q7; exact again I7 n7
    | cont => obtain ⟨σ7, H7, I7, n7⟩ := q7; exact again I7 n7
    | brk => obtain ⟨σ7, H7, I7, q7⟩ := q7; exact ⟨σ7, H7, I7.unpinned, q7⟩
    | ret v => obtain ⟨x7, σ7, H7, I7, r7, q7⟩ := q7; exact ⟨x7, σ7, H7, I7.unpinned, r7, q7⟩
theorem st_while {tb : TS} (hp : PassesOwn (model X.prog X.w) X.A X.env X.xe) (hc : TT' X c uC) (hb : BT X bd tb) : ST X (.While c bd [] pos) (tWhile uC tb) := by
  refine ⟨fun pins s σ H D hk I h => ?_⟩
  obtain ⟨W, ⟨m0, w0⟩, turn⟩ := h
  refine wpAny_While (codeAny_whileLoop (fun n s' => 1 ≤ s'.toks ∧ ∃ σ' H', Inv X pins σ' H' s' ∧ W n σ' H') ?_ m0 ⟨hk, σ, H, I, w0⟩)
  rintro n s1 ⟨k1, σ1, H1, I1, w1⟩
  refine wpAny_passesOwn hp (thnK k1 (hc.run pins s1 σ1 H1 _ k1 I1 (turn n σ1 H1 w1)) fun b s2 k2 ⟨H2, I2, q2⟩ => ?_)
  cases b with
  | true =>
    obtain ⟨N, hN, q2⟩ := q2
    rw [if_pos rfl]
    refine wpAny_passesOwn hp (thnK k2 (hb.run pins s2 σ1 H2 _ k2 I2 q2) fun f s3 k3 q3 => ?_)
    cases f with
    | next =>
      obtain ⟨σ3, H3, I3, n3⟩ := q3
      obtain ⟨m', hm, w3⟩ := hN σ3 H3 n3
      exact ⟨m', hm, k3, σ3, H3, I3, w3⟩
    | cont =>
      obtain ⟨σ3, H3, I3, n3⟩ := q3
      obtain ⟨m', hm, w3⟩ := hN σ3 H3 n3
      exact ⟨m', hm, k3, σ3, H3, I3, w3⟩
    | brk => exact q3
    | ret v => exact q3
  | false =>
    rw [if_neg Bool.false_ne_true]
    exact wpAny_execs_nil ⟨σ1, H2, I2, q2⟩
/-- calls of own defs -/
theorem run_fnT {CX : CXT} {k : Nat} {f : Addr} {fd : FuncData} {ps : List Str} {ds : List Value} {dvs : List V} {sp : Sp} {E : XK} {pins : List (Addr × Obj)} {σ : L2.St} {H : Hp} {s : Shared} {Q : VK} {us : List Value} {vs : List V} (F : FnT X.prog X.w X.K X.mg X.base CX k f fd ps sp) (hr : Room k X.A) (hb : Binds X.K fd ps ds) (hd : Vals dvs ds) (hx : Passes CX X E)
    (hk : 1 ≤ s.toks) (I : Inv X pins σ H s) (r : Vals vs us) (h : sp (vs ++ dvs) H Q E) : wpAny (model X.prog X.w) X.A (call (.ref f) us) (EP X pins σ Q) X.xe s := by
  have r2 : Vals (vs ++ dvs) (us ++ ds) := r.append hd
  have hl : (us ++ ds).length = ps.length := by rw [← r2.length]; exact F.len _ _ _ _ h
  refine wpAny_call (codeAny_mono (F.run X.A X.stack s H ⟨us, []⟩ (us ++ ds) (vs ++ dvs) Q E hk hr I.env0 (hb s us I.kIn hl) r2 h) fun r s' hq => ?_)
  cases r with
  | error e => exact hx pins σ H s e s' I hq
  | ok fl =>
    cases fl with
    | ret u => exact I.after hq
    | next => exact False.elim hq
    | brk => exact False.elim hq
    | cont => exact False.elim hq
theorem run_fnK {CX : CXT} {k : Nat} {f : Addr} {fd : FuncData} {ps : List Str} {ds : List Value} {dvs : List V} {sp : Sp} {E : XK} {pins : List (Addr × Obj)} {σ : L2.St} {H : Hp} {s : Shared} {Q : VK} {us : List Value} {vs : List V} (F : FnK X.prog X.w X.K X.mg X.base CX k f fd ps sp) (hr : Room k X.A) (hb : Binds X.K fd ps ds) (hd : Vals dvs ds) (hx : Passes CX X E)
    (I : Inv X pins σ H s) (r : Vals vs us) (h : sp (vs ++ dvs) H Q E) : wpAny (model X.prog X.w) X.A (call (.ref f) us) (fun u s' => 1 ≤ s'.toks ∧ EP X pins σ Q u s') X.xe s := by
  have r2 : Vals (vs ++ dvs) (us ++ ds) := r.append hd
  have hl : (us ++ ds).length = ps.length := by rw [← r2.length]; exact F.len _ _ _ _ h
  refine wpAny_call (codeAny_mono (F.run X.A X.stack s H ⟨us, []⟩ (us ++ ds) (vs ++ dvs) Q E hr I.env0 (hb s us I.kIn hl) r2 h) fun r s' hq => ?_)
  cases r with
  | error e => exact hx pins σ H s e s' I hq.2
  | ok fl =>
    cases fl with
    | ret u => exact ⟨hq.1.elim (fun ⟨_, z⟩ => nomatch z) _root_.id, I.after hq.2⟩
    | next => exact False.elim hq.2
    | brk => exact False.elim hq.2
    | cont => exact False.elim hq.2
variable {x : Str} {k : Nat} {ps : List Str} {dvs : List V} {sp : Sp} {p : Pos}
theorem et_own (O : OwnT X.prog X.w X.K X.mg X.base x k ps dvs sp) (hr : Room k X.A) (hg : Gl X x) (ha : AT X (e :: es) tx) (hdb : (x == ("__debug__" : Str)) = false := by decide) (he : starEach (e :: es) X.env = (false, eval e X.env) :: starEach es X.env := by rfl) (hpl : (backTo pos (starEach es X.env)).any (·.1) = false := by rfl) :
    ET X (.Call (.Name x p) (e :: es) [] pos) (tCall sp dvs E0 tx) := by
  obtain ⟨f, fd, ds, F, hm, hkp, hb, hd⟩ := O.ex
  refine ⟨fun pins s σ H Q hk I h => ?_⟩
  refine wpAny_Call_Name_kw (ld_glob I hg hm ?_ hdb)
  refine PySem.W.callWith_K (h₀ := X.base) I.ok.mod.kin hkp (thnK hk (ha.run pos pins s σ H _ hk I h) fun us s1 k1 ⟨vs, H1, I1, r, q⟩ => ⟨I1.kIn, ?_⟩) he hpl
  exact run_fnT F hr hb hd pass0 k1 I1 r q
/-- a call of a def without tokens' care, its arguments with it -/
theorem et_ownP (O : Own X.prog X.w X.K X.mg X.base x k ps dvs sp) (hr : Room k X.A) (hg : Gl X x) (ha : AT X (e :: es) tx) (hdb : (x == ("__debug__" : Str)) = false := by decide) (he : starEach (e :: es) X.env = (false, eval e X.env) :: starEach es X.env := by rfl) (hpl : (backTo pos (starEach es X.env)).any (·.1) = false := by rfl) :
    ET X (.Call (.Name x p) (e :: es) [] pos) (tCall sp dvs E0 tx) := by
  obtain ⟨f, fd, ds, F, hm, hkp, hb, hd⟩ := O.ex
  refine ⟨fun pins s σ H Q hk I h => ?_⟩
  refine wpAny_Call_Name_kw (ld_glob I hg hm ?_ hdb)
  refine PySem.W.callWith_K (h₀ := X.base) I.ok.mod.kin hkp (thnK hk (ha.run pos pins s σ H _ hk I h) fun us s1 k1 ⟨vs, H1, I1, r, q⟩ => ⟨I1.kIn, ?_⟩) he hpl
  exact run_fn F hr hb hd pass0 I1 r q
theorem ek_own (O : OwnK X.prog X.w X.K X.mg X.base x k ps dvs sp) (hr : Room k X.A) (hg : Gl X x) (ha : PA X (e :: es) tx) (hdb : (x == ("__debug__" : Str)) = false := by decide) (he : starEach (e :: es) X.env = (false, eval e X.env) :: starEach es X.env := by rfl) (hpl : (backTo pos (starEach es X.env)).any (·.1) = false := by rfl) :
    EK X (.Call (.Name x p) (e :: es) [] pos) (tCall sp dvs E0 tx) := by
  obtain ⟨f, fd, ds, F, hm, hkp, hb, hd⟩ := O.ex
  refine ⟨fun pins s σ H Q I h => ?_⟩
  refine wpAny_Call_Name_kw (ld_glob I hg hm ?_ hdb)
  refine PySem.W.callWith_K (h₀ := X.base) I.ok.mod.kin hkp (thn (ha.run pos pins s σ H _ I h) fun us s1 ⟨vs, H1, I1, r, q⟩ => ⟨I1.kIn, ?_⟩) he hpl
  exact run_fnK F hr hb hd pass0 I1 r q
theorem sk_set {i : Nat} {y : Str} {pos' : Pos} (hN : X.N.Nodup) (hi : X.N[i]? = some y) (hx : Loc X.env.scope y) (he : EK X e te) (hs : swapsWith e (some (.Name y pos')) pos.line X.env = pure false := by rfl) (hf : X.fn y = true ∨ X.env.scope.names.lookup y = some .local := by first | exact .inl rfl | exact .inr rfl | assumption) :
    SK X (.Assign [.Name y pos'] e pos) (tAsg te (gName i)) := by
  refine ⟨fun pins s σ H D I h => ?_⟩
  refine wpAny_Assign_Name (thn (he.run pins s σ H _ I h) fun v s1 ⟨k1, z, H1, I1, r1, q1⟩ => ?_) hs
  exact thnK k1 (store_ok (Q := fun _ s2 => SP X pins D .next s2) I1 hN hi hx r1 (fun s2 I2 => ⟨_, H1, I2, q1⟩) hf) fun _ s2 k2 q => ⟨k2, q⟩
/-- what gives a token out: a written number among the items of a list -/
theorem ek_int {n : Int} {j : Nat} : EK X (.Constant (.int n) j pos) (tC (.int n)) :=
  ⟨fun pins s σ H Q I h => wpAny_Constant_int ⟨Nat.le_add_left 1 _, .int n, H, I.tok _, ⟨_, rfl⟩, h⟩⟩
theorem ak_here (ha : EK X e te) (hr : PA X es tx) (hs : starEach (e :: es) X.env = (false, eval e X.env) :: starEach es X.env := by rfl) : AK X (e :: es) (tCons te tx) := by
  refine ⟨fun pos pins s σ H Q I h => ?_⟩
  rw [hs]
  show wpAny _ _ (spliced ((false, eval e X.env) :: backTo pos (starEach es X.env))) _ _ s
  refine Calls.spliced_cons (thn (ha.run pins s σ H _ I h) fun v s1 ⟨k1, x, H1, I1, r1, q1⟩ => ?_)
  exact thnK k1 (hr.run pos pins s1 σ H1 _ I1 q1) fun us s2 k2 ⟨xs, H2, I2, r2, q2⟩ => ⟨k2, x :: xs, H2, I2, .cons r1 r2, q2⟩
theorem ak_there (ha : PE X e te) (hr : AK X es tx) (hs : starEach (e :: es) X.env = (false, eval e X.env) :: starEach es X.env := by rfl) : AK X (e :: es) (tCons te tx) := by
  refine ⟨fun pos pins s σ H Q I h => ?_⟩
  rw [hs]
  show wpAny _ _ (spliced ((false, eval e X.env) :: backTo pos (starEach es X.env))) _ _ s
  refine Calls.spliced_cons (thn (ha.run pins s σ H _ I h) fun v s1 ⟨x, H1, I1, r1, q1⟩ => ?_)
  exact thn (hr.run pos pins s1 σ H1 _ I1 q1) fun us s2 ⟨k2, xs, H2, I2, r2, q2⟩ => ⟨k2, x :: xs, H2, I2, .cons r1 r2, q2⟩
theorem ek_lst (h : AK X es tx) : EK X (.List es pos) (tLst tx) := by
  refine ⟨fun pins s σ H Q I hq => ?_⟩
  refine wpAny_List_spliced (thn (h.run pos pins s σ H _ I hq) fun us s1 ⟨k1, xs, H1, I1, r, z, q⟩ => ⟨by rw [← r.length]; exact z, ?_⟩)
  have hf : H1 s1.heap.objs.size = none := I1.hok.fresh (Nat.le_refl _)
  refine ⟨k1, .ref s1.heap.objs.size, upd H1 s1.heap.objs.size (.lst xs), I1.laid (t' := s1.toks) (fun b u e => Heap.get?_push_of_some _ e) (Nat.le_refl _) ?_, rfl, q _ hf⟩
  exact ⟨z, us, 0, r, Heap.get?_push_size _ rfl⟩
theorem sk_ret (he : EK X e te) : SK X (.Return (some e) pos) (tRet te) :=
  ⟨fun pins s σ H D I h => wpAny_Return_some (thn (he.run pins s σ H _ I h) fun v s1 ⟨k1, x, H1, I1, r1, q1⟩ => ⟨k1, x, σ, H1, I1, r1, q1⟩)⟩
theorem bk_one (h1 : SK X st t) : BK X [st] t := by
  refine ⟨fun pins s σ H D I h => ?_⟩
  refine wpAny_execs_cons (thn (h1.run pins s σ H D I h) fun f s1 ⟨k1, q⟩ => ?_)
  cases f with
  | next => exact wpAny_execs_nil ⟨k1, q⟩
  | ret v => exact ⟨k1, q⟩
  | brk => exact ⟨k1, q⟩
  | cont => exact ⟨k1, q⟩
end

/-! ### defs by their bodies: plain, from states with a token, giving one out -/
theorem BT.nox {X : Cx} {st : List Stmt} {t : TS} (h : BT X.nox st t) : BT X st t := ⟨fun pins s σ H D hk I hw =>
  wpAny_mono (h.run pins s σ H D hk (I.wish _) hw) (fun _ _ q => q.unwish) fun _ _ z => False.elim z⟩
theorem BK.nox {X : Cx} {st : List Stmt} {t : TS} (h : BK X.nox st t) : BK X st t := ⟨fun pins s σ H D I hw =>
  wpAny_mono (h.run pins s σ H D (I.wish _) hw) (fun _ _ q => ⟨q.1, q.2.unwish⟩) fun _ _ z => False.elim z⟩
abbrev Fn (K : PySem.W.Frag) (x : Str) (st : Stmt) (dvs : List V) (f : Addr) (fd : FuncData) : Prop := FunD K x x (defArgs st) (defBody st) (defScope st) dvs [] f fd
section
variable {P : Program} {w : World} {K : PySem.W.Frag} {mg : Str → Option Value} {base : Heap} {x : Str} {st : Stmt} {dvs : List V} {f : Addr} {fd : FuncData} {N ps : List Str} {k : Nat} {sp : Sp}
theorem Fn.mk' {oc dV kV doc pm cdv ct : Value} {od an : Option Addr} {osl : Array (Option Value)} (l : K.lookup f = some ⟨oc, od, .func (PySem.W.fnOf x x (defArgs st) (defBody st) (defScope st) dV kV doc pm an cdv ct), osl⟩)
    (c : PySem.W.codeIn K cdv x = true) (h : PySem.W.keepIn K (.ref f) = true) (d : DflV K dV dvs) : Fn K x st dvs f (PySem.W.fnOf x x (defArgs st) (defBody st) (defScope st) dV kV doc pm an cdv ct) :=
  ⟨⟨oc, od, dV, kV, doc, pm, an, cdv, ct, osl, rfl, l, c, d, .inl rfl⟩, h⟩
theorem Fn.okN (F : Fn K x st dvs f fd) (S : FnScope N ps (defScope st)) (len : ∀ vs H Q E, sp vs H Q E → vs.length = ps.length)
    (hbody : ∀ (cdv : Value) (A : Around) (outer : List Env) (s : Shared) (H : Hp) (vs : List V) (Q : VK) (E : XK), Room k (A.deeper (envOfC x (defScope st) s.heap.objs.size f cdv)) → sp vs H Q E →
      ∃ t, PSs (cxOf CX0 P w K mg base N x (defScope st) f cdv A outer s H E).nox (defBody st) t ∧ t { nx := fun _ H' => Q .non H', rt := Q } (start N vs) H) : FnOk P w K mg base CX0 (k + 1) f fd ps sp :=
  FunD.ok F S len fun cdv A outer s H vs Q E hr hsp => by
    obtain ⟨t, h, q⟩ := hbody cdv A outer s H vs Q E hr hsp
    exact ⟨t, h.nox, q⟩
theorem Fn.okT (F : Fn K x st dvs f fd) (S : FnScope N ps (defScope st)) (len : ∀ vs H Q E, sp vs H Q E → vs.length = ps.length)
    (hbody : ∀ (cdv : Value) (A : Around) (outer : List Env) (s : Shared) (H : Hp) (vs : List V) (Q : VK) (E : XK), Room k (A.deeper (envOfC x (defScope st) s.heap.objs.size f cdv)) → sp vs H Q E →
      ∃ t, BT (cxOf CX0 P w K mg base N x (defScope st) f cdv A outer s H E).nox (defBody st) t ∧ t { nx := fun _ H' => Q .non H', rt := Q } (start N vs) H) : FnT P w K mg base CX0 (k + 1) f fd ps sp := by
  obtain ⟨oc, od, dV, kV, doc, pm, an, cdv, ct, osl, rfl, lk, hcd, _, _⟩ := F.ex
  refine ⟨len, fun A outer s H args us vs Q E hk hr e0 hb r hsp => ?_⟩
  have hl := len _ _ _ _ hsp
  have KX : K.In s.heap := e0.mod.kin.keeps fun b o e => (e0.bs b o e).1
  have lim : s.heap.NoLimit := e0.mod.nolimit.keeps fun b o e => (e0.bs b o e).1
  have hkind : ∀ y ∈ ps.zip us, (defScope st).names.lookup y.1 = some .local ∨ ((defScope st).names.lookup y.1 = some .cell ∧ ((cellsFrom (s.heap.objs.size + 1) (defScope st).names []).lookup y.1).isSome = true) := fun ⟨n, v⟩ hy => by
    rcases S.par n (List.of_mem_zip hy).1 with q | q
    · exact .inl q
    · exact .inr ⟨q, PySem.W.cellsFrom_some _ _ _ (.inl q)⟩
  refine codeAny_call_function hr.depth (KX _ _ lk) rfl S.co S.gen rfl (PySem.W.codeRec_of KX hcd) (hb _ _ _ _ ?_)
  refine PySem.wpAny_with_toks hk ?_
  refine wpAny_newFunctionEnv_cells S.kind hkind fun env he s1 xx => ?_
  intro k1
  subst he
  refine ⟨lim.keeps xx.toInCall.keep, codeAny_func ?_⟩
  obtain ⟨t, ht, hq⟩ := hbody cdv A outer s H vs Q E (hr.deeper _) hsp
  have I : Inv (cxOf CX0 P w K mg base N x (defScope st) f cdv A outer s H E) [] (start N vs) H s1 := inv_start S hr.hd e0 hl r xx
  refine wpAny_mono (ht.nox.run [] s1 (start N vs) H _ k1 I hq) (fun fl s' hs => ?_) fun e s' hs => hs
  have fin : ∀ {σ' : L2.St} {H' : Hp} {v : V} {u : Value}, Inv (cxOf CX0 P w K mg base N x (defScope st) f cdv A outer s H E) [] σ' H' s' → RelV v u → Q v H' → CE outer P w H s Q u s' :=
    fun {σ' H' v u} J rv q => ⟨v, H', J.os, J.bare, J.base, J.hok, rv, q⟩
  cases fl with
  | ret u =>
    obtain ⟨v, σ', H', J, rv, q⟩ := hs
    exact fin J rv q
  | next =>
    obtain ⟨σ', H', J, q⟩ := hs
    exact fin (v := V.non) (u := Value.none) J rfl q
  | brk =>
    obtain ⟨_, _, _, q⟩ := hs
    exact False.elim q
  | cont =>
    obtain ⟨_, _, _, q⟩ := hs
    exact False.elim q
theorem Fn.okK (F : Fn K x st dvs f fd) (S : FnScope N ps (defScope st)) (len : ∀ vs H Q E, sp vs H Q E → vs.length = ps.length)
    (hbody : ∀ (cdv : Value) (A : Around) (outer : List Env) (s : Shared) (H : Hp) (vs : List V) (Q : VK) (E : XK), Room k (A.deeper (envOfC x (defScope st) s.heap.objs.size f cdv)) → sp vs H Q E →
      ∃ t, BK (cxOf CX0 P w K mg base N x (defScope st) f cdv A outer s H E).nox (defBody st) t ∧ t { nx := fun _ H' => Q .non H', rt := Q } (start N vs) H) : FnK P w K mg base CX0 (k + 1) f fd ps sp := by
  obtain ⟨oc, od, dV, kV, doc, pm, an, cdv, ct, osl, rfl, lk, hcd, _, _⟩ := F.ex
  refine ⟨len, fun A outer s H args us vs Q E hr e0 hb r hsp => ?_⟩
  have hl := len _ _ _ _ hsp
  have KX : K.In s.heap := e0.mod.kin.keeps fun b o e => (e0.bs b o e).1
  have lim : s.heap.NoLimit := e0.mod.nolimit.keeps fun b o e => (e0.bs b o e).1
  have hkind : ∀ y ∈ ps.zip us, (defScope st).names.lookup y.1 = some .local ∨ ((defScope st).names.lookup y.1 = some .cell ∧ ((cellsFrom (s.heap.objs.size + 1) (defScope st).names []).lookup y.1).isSome = true) := fun ⟨n, v⟩ hy => by
    rcases S.par n (List.of_mem_zip hy).1 with q | q
    · exact .inl q
    · exact .inr ⟨q, PySem.W.cellsFrom_some _ _ _ (.inl q)⟩
  refine codeAny_call_function hr.depth (KX _ _ lk) rfl S.co S.gen rfl (PySem.W.codeRec_of KX hcd) (hb _ _ _ _ ?_)
  refine wpAny_newFunctionEnv_cells S.kind hkind fun env he s1 xx => ?_
  subst he
  refine ⟨lim.keeps xx.toInCall.keep, codeAny_func ?_⟩
  obtain ⟨t, ht, hq⟩ := hbody cdv A outer s H vs Q E (hr.deeper _) hsp
  have I : Inv (cxOf CX0 P w K mg base N x (defScope st) f cdv A outer s H E) [] (start N vs) H s1 := inv_start S hr.hd e0 hl r xx
  refine wpAny_mono (ht.nox.run [] s1 (start N vs) H _ I hq) (fun fl s' hs => ?_) fun e s' hs => ?_
  · obtain ⟨kk, hs⟩ := hs
    have fin : ∀ {σ' : L2.St} {H' : Hp} {v : V} {u : Value}, Inv (cxOf CX0 P w K mg base N x (defScope st) f cdv A outer s H E) [] σ' H' s' → RelV v u → Q v H' → ((∃ e : Value, (Except.ok (Flow.ret u) : Result) = .error e) ∨ 1 ≤ s'.toks) ∧ CE outer P w H s Q u s' :=
      fun {σ' H' v u} J rv q => ⟨.inr kk, v, H', J.os, J.bare, J.base, J.hok, rv, q⟩
    cases fl with
    | ret u =>
      obtain ⟨v, σ', H', J, rv, q⟩ := hs
      exact fin J rv q
    | next =>
      obtain ⟨σ', H', J, q⟩ := hs
      have z := fin (v := V.non) (u := Value.none) J rfl q
      exact ⟨.inr kk, z.2⟩
    | brk =>
      obtain ⟨_, _, _, q⟩ := hs
      exact False.elim q
    | cont =>
      obtain ⟨_, _, _, q⟩ := hs
      exact False.elim q
  · exact wpAny_mono hs (fun _ _ z => ⟨.inl ⟨_, rfl⟩, z⟩) (fun _ _ z => ⟨.inl ⟨_, rfl⟩, z⟩)
end

/-! ### further rules: text.replace of written texts, get of a written dict, in a tuple of data -/
section
variable {X : Cx} {o e : Expr} {to te : TE}
def tRepl (y z : Str) (to : TE) : TE := fun σ H Q => to σ H fun x H1 => ∃ a : Str, x = .str a ∧ a.length + (a.length + 1) * z.length ≤ 16777216 ∧ Q (.str (Txt.replace a y z)) H1
theorem et_repl {y z : Str} {j0 j1 : Nat} {c0 c1 apos pos : Pos} (ho : ET X o to) (hyz : (y == z) = false) (hst : starEach [.Constant (.str y) j0 c0, .Constant (.str z) j1 c1] X.env = [(false, eval (.Constant (.str y) j0 c0) X.env), (false, eval (.Constant (.str z) j1 c1) X.env)] := by rfl)
    (hbase : attributeBase o "replace" X.env (eval o X.env) = eval o X.env := by rfl) (hline : (apos.endLine == pos.line) = true := by rfl) :
    ET X (.Call (.Attribute o "replace" apos) [.Constant (.str y) j0 c0, .Constant (.str z) j1 c1] [] pos) (tRepl y z to) := by
  refine ⟨fun pins s σ H Q hk I h => ?_⟩
  refine PySem.Call_method2 hbase hst hline (thnK hk (ho.run pins s σ H _ hk I h) fun v s1 k1 ⟨x, H1, I1, r1, a, ex, hb, q⟩ => ?_)
  subst ex
  obtain ⟨tx, rfl⟩ := r1
  refine ⟨"str", _, PySem.F.plainAttrs_str, PySem.F.slot_str_replace, PySem.F.type_str_replace, typeIs_str _ _ _, (fun _ e => nomatch e), Calls.callWith_builtin rfl (Calls.evalArgs_plain (Calls.spliced_cons (Calls.Constant_str (Calls.spliced_cons (Calls.Constant_str (Calls.spliced_nil ?_))))))⟩
  exact PySem.SC.replace (show s1.toks ≠ 0 by omega) (show s1.toks + 1 ≠ 0 by omega) (show s1.toks ≠ s1.toks + 1 by omega) hyz hb fun t' k => ⟨.str (Txt.replace a y z), H1, I1.tok k, ⟨t', rfl⟩, q⟩
/-- d.get(key) of a written dict with text keys -/
def tKGet (K : PySem.W.Frag) (d : Addr) (to te : TE) : TE := fun σ H Q => to σ H fun x H1 => x = .ref d ∧ te σ H1 fun y H2 => ∃ (z : Str) (r : Option Value) (v : V), y = .str z ∧ PySem.W.nsIn K d z = some r ∧ RelV v (r.getD .none) ∧ Q v H2
theorem pe_kget {d : Addr} {es : Array DictEntry} {n : Nat} {apos cpos : Pos} (D : KDict X.K X.w d es n) (ho : PE X o to) (he : PE X e te) (m : M1 X o "get" apos e cpos) : PE X (.Call (.Attribute o "get" apos) [e] [] cpos) (tKGet X.K d to te) := by
  refine ⟨fun pins s σ H Q I h => ?_⟩
  refine wpAny_Call_method m.base m.few m.line PySem.F.plainAttrs_dict PySem.F.slot_dict_get PySem.F.type_dict_get (thn (ho.run pins s σ H _ I h) fun u s1 ⟨x, H1, I1, rx, ex, q1⟩ => ?_)
  subst ex
  obtain rfl : u = Value.ref d := rx
  refine ⟨kd_type D I1, fun a ea => ?_, ?_⟩
  · cases ea
    exact ⟨_, I1.kIn _ _ D.at_, rfl⟩
  rw [m.trees]
  refine Calls.callWith_builtin rfl (Calls.evalArgs_plain (Calls.spliced_cons (thn (he.run pins s1 σ H1 _ I1 q1) fun iv s2 ⟨y, H2, I2, ry, z, r, v, ey, e, rv, q2⟩ => Calls.spliced_nil ?_)))
  subst ey
  obtain ⟨t, rfl⟩ := ry
  refine call_meetsIn PySem.F.slot_dict_get (kd_type D I2) PySem.F.entry_dict_get (PySem.F.args_dict_get_2 _ _) (meets_dict_get (PySem.strKind X.prog X.w) d (PySem.strKind_is X.prog X.w z t) D.low) ⟨_, PySem.W.mapOf_K (prog := X.prog) I2.kIn D.at_ D.lit, ?_⟩
  rw [PySem.W.find_K D.at_ e]
  exact ⟨v, H2, I2.tok _, rv, q2⟩
/-- x in (.., ..), the items data of any depth -/
def rInT (K : PySem.W.Frag) : R2 := fun x y H Q => ∃ d ds, Dp K H x d ∧ Dp K H y (.tuple ds) ∧ SeqAt.shaped d = true ∧ SeqAt.shaped (.tuple ds) = true ∧ d.depth ≤ 60 ∧ Q (.bl (ds.any fun z => PyData.eqv z d)) H
theorem op_inT (hu : X.A.units + 64 < cLine) : OpR X (compareOp .In) (rInT X.K) := by
  intro pins s σ H x y v u Q I rx ry h
  obtain ⟨d, ds, hd, he, sd, se, dl, q⟩ := h
  obtain ⟨as, r1⟩ := Dp.reads I d x v hd rx
  obtain ⟨bs, r2⟩ := Dp.reads I (.tuple ds) y u he ry
  exact SeqAt.in_tuple_reads r2 r1 (SeqAt.canLay_of_shaped se) (SeqAt.canLay_of_shaped sd) (by omega) ⟨.bl _, H, I, rfl, q⟩
end
section
variable {X : Cx} {a : Expr} {ta : TE}
def tTr (K' : PySem.W.Frag) (ta : TE) : TT := fun σ H Q => ta σ H fun x H1 => ∃ k, TruV K' x H1 k ∧ Q k H1
theorem pt_tr {K' : PySem.W.Frag} (ha : PE X a ta) (hK : X.K = K' := by rfl) (he : ∀ whole, isTrue a X.env whole = (do let v ← whole; standAt a.pos; holding [v] (truthy v)) := by intro _; rfl) : PT X a (tTr K' ta) := by
  subst hK
  exact pt_truth ha he
end

/-! ### a text times a number; pairs of texts -/
theorem op_repS {X : Cx} : OpR X (binaryOp .Mult) (fun x y H Q => ∃ (z : Str) (n : Int), x = .str z ∧ y = .int n ∧ MulOk z n ∧ Q (.str (Txt.mul z n)) H) := by
  intro pins s σ H x y v u Q I rx ry h
  obtain ⟨z, n, rfl, rfl, ok, q⟩ := h
  obtain ⟨t, rfl⟩ := rx
  obtain ⟨t', rfl⟩ := ry
  exact PySem.SB.mul ok fun t' k => ⟨.str (Txt.mul z n), H, I.tok _, ⟨_, rfl⟩, q⟩

/-! ### texts of lists of signs -/
def mk (l : List Nat) : Str := ⟨l.toArray⟩
theorem tl_mk' (l : List Nat) : tl (mk l) = l := rfl
theorem mk_tl' (x : Str) : mk (tl x) = x := ext_tl rfl
theorem mk_len (l : List Nat) : (mk l).length = l.length := by rw [len_tl]; rfl
theorem join_mk (y : List Nat) (ps : List (List Nat)) : Txt.join (mk y) (ps.map mk) = mk (joinL y ps) := by
  refine ext_tl ?_
  rw [join_eq, tl_join, List.map_map]
  show joinL y (ps.map (tl ∘ mk)) = joinL y ps
  have : (tl ∘ mk) = id := by
    funext l
    rfl
  rw [this, List.map_id]
theorem take_filter {α : Type} (p : α → Bool) {l : List α} {i : Nat} {a : α} (h : l[i]? = some a) : (l.take (i + 1)).filter p = (l.take i).filter p ++ (if p a then [a] else []) := by
  rw [List.take_add_one, h, List.filter_append]
  show _ ++ List.filter p [a] = _
  rw [List.filter_cons]
  rfl

/-! ### a text, sign by sign; texts joined -/
theorem for_str {x : Str} {g : TG} {tb : TS} {D : Ends} {σ : L2.St} {H : Hp} (Pv : Nat → L2.St → Hp → Prop) (h0 : Pv 0 σ H)
    (hs : ∀ i c σ H, (tl x)[i]? = some c → Pv i σ H → g (.str ⟨#[c]⟩) σ H fun σ2 H2 => tb { D with nx := Pv (i + 1), ct := Pv (i + 1), bk := D.nx } σ2 H2) (hd : ∀ σ H, Pv (tl x).length σ H → D.nx σ H) :
    ∃ W : Nat → Nat → L2.St → Hp → Prop, (∃ m, W 0 m σ H) ∧ ∀ i m σ H, W i m σ H →
      ((Its x).stop i H ∧ D.nx σ H) ∨ ((Its x).go i H ∧ ∃ N : L2.St → Hp → Prop, (∀ σ' H', N σ' H' → ∃ m', m' < m ∧ W (i + 1) m' σ' H') ∧ ∀ y H', (Its x).yld i H y H' → g y σ H' fun σ2 H2 => tb { D with nx := N, ct := N, bk := D.nx } σ2 H2) := by
  have sz : x.cps.size = (tl x).length := by simp [tl]
  refine ⟨fun i m σ H => m = (tl x).length - i ∧ i ≤ (tl x).length ∧ Pv i σ H, ⟨(tl x).length, by simp, Nat.zero_le _, h0⟩, ?_⟩
  rintro i m σ H ⟨rfl, hi, p⟩
  by_cases hlt : i < (tl x).length
  · refine .inr ⟨by show i < x.cps.size; omega, Pv (i + 1), fun σ' H' p' => ⟨(tl x).length - (i + 1), by omega, rfl, hlt, p'⟩, fun y H' z => ?_⟩
    obtain ⟨e, c, hc, ey⟩ := z
    subst e ey
    exact hs i c σ _ (by rw [← hc]; simp [tl]) p
  · have e : i = (tl x).length := by omega
    subst e
    exact .inl ⟨by show x.cps.size ≤ (tl x).length; omega, hd σ H p⟩
theorem len_join (y : Str) (m : Nat) : ∀ ws : List Str, (∀ w ∈ ws, w.length ≤ m) → (Txt.join y ws).length ≤ (m + y.length) * ws.length := by
  intro ws h
  rw [join_eq, len_tl, tl_join]
  have hy : y.length = (tl y).length := len_tl y
  induction ws with
  | nil => exact Nat.zero_le _
  | cons a r ih =>
    have ha : (tl a).length ≤ m := by
      rw [← len_tl]
      exact h a (List.mem_cons_self ..)
    have ihr := ih fun w hw => h w (List.mem_cons_of_mem _ hw)
    cases r with
    | nil =>
      show (tl a).length ≤ (m + y.length) * 1
      omega
    | cons b r =>
      show (tl a ++ (tl y ++ joinL (tl y) ((b :: r).map tl))).length ≤ _
      rw [List.length_append, List.length_append, List.length_cons (a := a), Nat.mul_succ]
      omega
theorem sum_len (m : Nat) : ∀ ws : List Str, (∀ w ∈ ws, w.length ≤ m) → (ws.map (·.length)).sum ≤ m * ws.length
  | [], _ => Nat.zero_le _
  | a :: r, h => by
    have ih := sum_len m r fun w hw => h w (List.mem_cons_of_mem _ hw)
    have ha := h a (List.mem_cons_self ..)
    rw [List.map_cons, List.sum_cons, List.length_cons, Nat.mul_succ]
    omega

/-! ### the source of draws -/
/-- a source of draws stands at D: its two lists at A and B, so many draws made -/
structure Drw (H : Hp) (D A B : Addr) (n : Int) : Prop where
  ex : ∃ (as bs : List Int) (c : Int), H D = some (.lst [.ref A, .int c, .ref B, .int n]) ∧ H A = some (.lst (as.map V.int)) ∧ H B = some (.lst (bs.map V.int))
  ab : A ≠ B
  pos : 0 ≤ n
/-- all but what a draw may change stands as it stood -/
def Kept (D A : Addr) (H H' : Hp) : Prop := ∀ b o, H b = some o → b ≠ D → b ≠ A → H' b = some o
theorem Kept.refl {D A : Addr} {H : Hp} : Kept D A H H := fun _ _ e _ _ => e
theorem Kept.trans {D A : Addr} {H H' H'' : Hp} (h : Kept D A H H') (k : Kept D A H' H'') : Kept D A H H'' := fun b o e n m => k b o (h b o e n m) n m
theorem Kept.of {D A : Addr} {H H' : Hp} (h : Same H H') : Kept D A H H' := fun b o e _ _ => h b o e
theorem Kept.upd {D A p : Addr} {o : HO} {H H' : Hp} (h : Kept D A H H') (hp : H p = none) : Kept D A H (L2.upd H' p o) := fun b x e n m => by
  rw [upd_ne (ne_of_none e hp)]
  exact h b x e n m
theorem Drw.same {H H' : Hp} {D A B : Addr} {n : Int} (h : Drw H D A B n) (k : Same H H') : Drw H' D A B n := by
  obtain ⟨⟨as, bs, c, h1, h2, h3⟩, h4, h5⟩ := h
  exact ⟨⟨as, bs, c, k _ _ h1, k _ _ h2, k _ _ h3⟩, h4, h5⟩
theorem Drw.tracked {H : Hp} {D A B : Addr} {n : Int} (h : Drw H D A B n) : (∃ o, H D = some o) ∧ (∃ o, H A = some o) ∧ ∃ o, H B = some o := by
  obtain ⟨⟨as, bs, c, h1, h2, h3⟩, h4, h5⟩ := h
  exact ⟨⟨_, h1⟩, ⟨_, h2⟩, ⟨_, h3⟩⟩
/-- a change at a third place -/
theorem Drw.upd {H : Hp} {D A B p : Addr} {o : HO} {n : Int} (h : Drw H D A B n) (hD : p ≠ D) (hA : p ≠ A) (hB : p ≠ B) : Drw (L2.upd H p o) D A B n := by
  obtain ⟨⟨as, bs, c, h1, h2, h3⟩, h4, h5⟩ := h
  exact ⟨⟨as, bs, c, by rw [upd_ne (Ne.symm hD)]; exact h1, by rw [upd_ne (Ne.symm hA)]; exact h2, by rw [upd_ne (Ne.symm hB)]; exact h3⟩, h4, h5⟩
theorem Drw.new {H : Hp} {D A B p : Addr} {o : HO} {n : Int} (h : Drw H D A B n) (hp : H p = none) : Drw (L2.upd H p o) D A B n := h.same (same_new hp)

theorem canLay_ints (ns : List Int) : PyData.canLayAll0 (ns.map PyData.int) = true := by
  induction ns with
  | nil => rfl
  | cons x r ih => simpa [PyData.canLayAll0, PyData.canLay0] using ih
theorem depth_ints (ns : List Int) : PyData.depthAll (ns.map PyData.int) ≤ 1 := by
  induction ns with
  | nil => simp [PyData.depthAll]
  | cons x r ih => simp [PyData.depthAll, PyData.depth]; omega
theorem shaped_ints (ns : List Int) : SeqAt.shaped (.list (ns.map PyData.int)) = true := by
  have h1 := canLay_ints ns
  have h2 := depth_ints ns
  simp [SeqAt.shaped, PyData.canLay0, PyData.depth, h1]
  omega
theorem dp_ints {K : PySem.W.Frag} {H : Hp} : ∀ (ns : List Int), DpAll K H (ns.map V.int) (ns.map PyData.int)
  | [] => .nil
  | x :: r => .cons (.int x) (dp_ints r)
theorem eqv_nil (ns : List Int) : PyData.eqv (.list (ns.map PyData.int)) (.list []) = ns.isEmpty := by
  cases ns <;> simp [PyData.eqv, PyData.eqvAll]

section
variable {P : Program} {w : World} {K : PySem.W.Frag} {mg : Str → Option Value} {base : Heap}
/-! ### _law_mixed -/
def sp_law_mixed : Sp := fun vs H Q _ => ∃ (s k : Int), vs = [.int s, .int k] ∧ 0 ≤ k ∧ k < 4194304 ∧ ∀ r, Q (.int r) H
theorem ok_law_mixed {f : Addr} {fd : FuncData} {dvs : List V} (F : Fn K "_law_mixed" s_law_mixed dvs f fd) : FnOk P w K mg base CX0 1 f fd ["seed", "k"] (sp_law_mixed) := by
  refine Fn.okN F sc_law_mixed (fun vs H Q E h => ?_) (fun cdv A outer s H vs Q E hr h => ?_)
  · obtain ⟨_, _, rfl, _⟩ := h
    rfl
  · obtain ⟨x, y, rfl, y0, y1, k⟩ := h
    refine ⟨_, (pss_cons (ps_set (i := 2) sc_law_mixed.nd rfl (.inl rfl) (pe_op op_mod (pe_op op_pow (pe_op op_add (pe_op op_add (pe_op op_mod (pv 0) pe_int) (pe_op op_mul pe_int (pv 1))) pe_int) pe_int) pe_int))
      (pss_one (ps_ret (pe_op op_mod (pe_op op_pow (pe_op op_add (pe_op op_add (pe_op op_mul (pv 2) pe_int) (pe_op op_mul (pe_op op_mul pe_int (pv 1)) (pv 1))) pe_int) pe_int) pe_int)))), ?_⟩
    have e1 : 0 ≤ x % 2147483647 := Int.emod_nonneg _ (by decide)
    have e2 : x % 2147483647 < 2147483647 := Int.emod_lt_of_pos _ (by decide)
    refine ⟨_, rfl, _, _, rfl, rfl, (by show (0 : Int) < 2147483647; decide), _, rfl, _, _, rfl, rfl, .inl ⟨by decide, by decide⟩, _, _, rfl, rfl, _, _, rfl, rfl, _, _, rfl, rfl, ⟨by decide, by decide, ?_⟩, _, _, rfl, rfl, (by show (0 : Int) < 2147483629; decide), ?_⟩
    · generalize x % 2147483647 = m at e1 e2
      omega
    have g1 : ∀ z : Int, 0 ≤ z % 2147483629 := fun z => Int.emod_nonneg _ (by decide)
    have g2 : ∀ z : Int, z % 2147483629 < 2147483629 := fun z => Int.emod_lt_of_pos _ (by decide)
    generalize hz : ((x % 2147483647 + 7919 * y + 104729) ^ (5 : Int).toNat) = z
    have z1 := g1 z
    have z2 := g2 z
    generalize z % 2147483629 = u at z1 z2
    have yy : 40503 * y * y ≤ 40503 * 4194304 * 4194304 := Int.mul_le_mul (by omega) (by omega) y0 (by decide)
    have yy0 : 0 ≤ 40503 * y * y := Int.mul_nonneg (by omega) y0
    refine ⟨_, rfl, _, _, rfl, rfl, .inl ⟨by omega, by omega⟩, _, rfl, _, _, rfl, rfl, .inl ⟨by decide, by decide⟩, _, rfl, _, _, rfl, rfl, .inl ⟨by omega, by omega⟩, _, _, rfl, rfl, _, _, rfl, rfl, _, _, rfl, rfl, ⟨by decide, by decide, ?_⟩, _, _, rfl, rfl, (by show (0 : Int) < 1000000007; decide), ?_⟩
    · generalize 40503 * y * y = q at yy yy0
      omega
    · exact k _
/-! ### _law_draws -/
def sp_law_draws (K : PySem.W.Frag) : Sp := fun vs H Q _ => ∃ (a : Addr) (ns : List Int), vs = [.ref a] ∧ SqL K H a (ns.map V.int) ∧ ns.length ≤ 63 ∧
  ∀ (H' : Hp) (D A B : Addr), Same H H' → Drw H' D A B 0 → H D = none → H A = none → Q (.ref D) H'
theorem ok_law_draws {f : Addr} {fd : FuncData} {dvs : List V} (F : Fn K "_law_draws" s_law_draws dvs f fd) : FnOk P w K mg base CX0 1 f fd ["script"] (sp_law_draws K) := by
  refine Fn.okN F sc_law_draws (fun vs H Q E h => ?_) (fun cdv A outer s H vs Q E hr h => ?_)
  · obtain ⟨_, _, rfl, _⟩ := h
    rfl
  · obtain ⟨a, ns, rfl, hS, hl, k⟩ := h
    refine ⟨_, (pss_one (ps_ret (pe_lst (pa_cons (pe_lc (own := [("item", 1)]) (g := gName 1) (by rfl) sc_law_draws.nd (pi_list (pv 0)) (blkOk_by (own := [("item", 1)]) (N := ["script", "item"]) (sc := defScope s_law_draws) (by decide +kernel)) (fun _ _ _ _ _ => (pg_name (i := 1) sc_law_draws.nd rfl (.inl rfl))) (fun _ _ _ _ _ => (pts_one (pt_cmpR op_ge (pv 1) (pe_op op_pow pe_int pe_int) (nomark _)))) (fun _ _ _ _ _ => (pv 1))) (pa_cons pe_int (pa_cons (pe_lc (own := [("item", 1)]) (g := gName 1) (by rfl) sc_law_draws.nd (pi_list (pv 0)) (blkOk_by (own := [("item", 1)]) (N := ["script", "item"]) (sc := defScope s_law_draws) (by decide +kernel)) (fun _ _ _ _ _ => (pg_name (i := 1) sc_law_draws.nd rfl (.inl rfl))) (fun _ _ _ _ _ => (pts_one (pt_cmpR op_lt (pv 1) (pe_op op_pow pe_int pe_int) (nomark _)))) (fun _ _ _ _ _ => (pv 1))) (pa_cons pe_int pa_nil))))))), ?_⟩
    refine ⟨_, rfl, a, rfl, ⟨_, hS⟩, fun A1 nA => lc_list (K := K) (a := a) (xs := ns.map V.int) (fun i H2 => ∃ acc : List Int, acc.length ≤ i ∧ H2 A1 = some (.lst (acc.map V.int)) ∧ Same H H2)
      ⟨[], Nat.le_refl _, upd_same, same_new nA⟩ (fun i H2 _ h2 => by obtain ⟨_, _, _, s2⟩ := h2; exact s2.seq hS) ?_ ?_⟩
    · rintro i x H2 hi ⟨acc, l2, e2, s2⟩
      obtain ⟨z, rfl⟩ := int_at hi
      have hil : i < (ns.map V.int).length := (List.getElem?_eq_some_iff.mp hi).1
      rw [List.length_map] at hil
      refine ⟨rfl, _, rfl, _, _, rfl, rfl, ⟨by decide, by decide, by decide⟩, _, _, rfl, rfl, _, rfl, ite2 (fun _ => ?_) (fun _ => ?_)⟩
      · refine ⟨_, rfl, _, e2, by rw [List.length_map]; exact small1000 (by omega), acc ++ [z], by rw [List.length_append]; exact Nat.succ_le_succ l2, ?_, fun b o e => ?_⟩
        · rw [upd_same, List.map_append]
          rfl
        · rw [upd_ne (ne_of_none e nA)]
          exact s2 b o e
      · exact ⟨acc, by omega, e2, s2⟩
    · rintro H2 ⟨as, l2, e2, s2⟩
      refine ⟨_, rfl, a, rfl, ⟨_, s2.seq hS⟩, fun B1 nB => lc_list (K := K) (a := a) (xs := ns.map V.int) (fun i H3 => ∃ acc : List Int, acc.length ≤ i ∧ H3 B1 = some (.lst (acc.map V.int)) ∧ Same H2 H3)
        ⟨[], Nat.le_refl _, upd_same, same_new nB⟩ (fun i H3 _ h3 => by obtain ⟨_, _, _, s3⟩ := h3; exact (s2.trans s3).seq hS) ?_ ?_⟩
      · rintro i x H3 hi ⟨acc, l3, e3, s3⟩
        obtain ⟨z, rfl⟩ := int_at hi
        have hil : i < (ns.map V.int).length := (List.getElem?_eq_some_iff.mp hi).1
        rw [List.length_map] at hil
        refine ⟨rfl, _, rfl, _, _, rfl, rfl, ⟨by decide, by decide, by decide⟩, _, _, rfl, rfl, _, rfl, ite2 (fun _ => ?_) (fun _ => ?_)⟩
        · refine ⟨_, rfl, _, e3, by rw [List.length_map]; exact small1000 (by omega), acc ++ [z], by rw [List.length_append]; exact Nat.succ_le_succ l3, ?_, fun b o e => ?_⟩
          · rw [upd_same, List.map_append]
            rfl
          · rw [upd_ne (ne_of_none e nB)]
            exact s3 b o e
        · exact ⟨acc, by omega, e3, s3⟩
      · rintro H3 ⟨bs, l3, e3, s3⟩
        have eA := s3 _ _ e2
        have nAB : A1 ≠ B1 := ne_of_none e2 nB
        refine ⟨by show 4 ≤ sizeLine; decide, fun D1 nD => ?_⟩
        have s4 := same_new (o := .lst [.ref A1, .int 0, .ref B1, .int 0]) nD
        refine k _ D1 A1 B1 (s2.trans (s3.trans s4)) ⟨⟨as, bs, 0, upd_same, s4 _ _ eA, s4 _ _ e3⟩, nAB, Int.le_refl _⟩ ((s2.trans s3).free nD) nA
/-! ### _law_take -/
def sp_law_take : Sp := fun vs H Q _ => ∃ (D A B : Addr) (n size : Int), vs = [.ref D, .int size] ∧ Drw H D A B n ∧ n < 1000000 ∧ 1 ≤ size ∧ size < 1073741824 ∧
  ∀ (r : Int) (H' : Hp), 0 ≤ r → r < size → Drw H' D A B (n + 1) → Kept D A H H' → Q (.int r) H'
/-- within a draw -/
structure Mids (H : Hp) (D A B : Addr) (m : Int) (H1 : Hp) : Prop where
  ex : ∃ (as bs : List Int) (c : Int), H1 D = some (.lst [.ref A, .int c, .ref B, .int m]) ∧ H1 A = some (.lst (as.map V.int)) ∧ H1 B = some (.lst (bs.map V.int))
  kp : Kept D A H H1
theorem ok_law_take {f : Addr} {fd : FuncData} {dvs : List V} (F : Fn K "_law_take" s_law_take dvs f fd) (O_law_mixed : Own P w K mg base "_law_mixed" 1 ["seed", "k"] [] (sp_law_mixed)) (m_len : mg "len" = none) : FnOk P w K mg base CX0 2 f fd ["draws", "size"] (sp_law_take) := by
  refine Fn.okN F sc_law_take (fun vs H Q E h => ?_) (fun cdv A outer s H vs Q E hr h => ?_)
  · obtain ⟨_, _, _, _, _, rfl, _⟩ := h
    rfl
  · obtain ⟨D, A1, B, n, size, rfl, ⟨⟨as, bs, c, hD, hA, hB⟩, nAB, n0⟩, hn, z0, z1, k⟩ := h
    refine ⟨_, (pss_cons (ps_asg (pe_op op_add (pe_ix ix_list (pv 0) pe_int (fun _ _ => rfl)) pe_int) (pg_sub (pv 0) pe_int set_list))
      (pss_cut (ps_if (PW.pt (pw_and (pt_cmpR op_eq (pe_ix ix_list (pv 0) pe_int (fun _ _ => rfl)) pe_int (nomark _)) (pw_and1 (pt_cmpR (op_neD hr.units) (pe_ix ix_list (pv 0) pe_int (fun _ _ => rfl)) (pe_lst pa_nil) (nomark _)))))
          (pss_one (ps_asg (pe_bm PySem.F.plainAttrs_list PySem.F.slot_list_pop PySem.F.type_list_pop mt_popAt (pe_ix ix_list (pv 0) pe_int (fun _ _ => rfl)) (pa_cons pe_int pa_nil)) (pg_sub (pv 0) pe_int set_list)))
          pss_nil)
      (pss_cons (ps_if (pt_cmpR op_gt (pe_ix ix_list (pv 0) pe_int (fun _ _ => rfl)) pe_int (nomark _))
          (pss_cons (ps_set (i := 2) sc_law_take.nd rfl (.inl rfl) (pe_op op_mod (pe_ix ix_list (pv 0) pe_int (fun _ _ => rfl)) (pv 1)))
            (pss_cons (ps_asg (pe_op op_fdivN (pe_ix ix_list (pv 0) pe_int (fun _ _ => rfl)) (pv 1)) (pg_sub (pv 0) pe_int set_list))
            (pss_one (ps_ret (pv 2)))))
          pss_nil)
      (pss_cons (ps_set (i := 3) sc_law_take.nd rfl (.inl rfl) pe_int)
      (pss_cut (ps_if (pt_cmpR (op_neD hr.units) (pe_ix ix_list (pv 0) pe_int (fun _ _ => rfl)) (pe_lst pa_nil) (nomark _))
          (pss_one (ps_set (i := 3) sc_law_take.nd rfl (.inl rfl) (pe_ix ix_list (pe_ix ix_list (pv 0) pe_int (fun _ _ => rfl)) (pe_op op_mod (pe_ix ix_list (pv 0) pe_int (fun _ _ => rfl)) (pe_callB call_len_seq (by rfl) m_len PySem.boot_len (pa_cons (pe_ix ix_list (pv 0) pe_int (fun _ _ => rfl)) pa_nil))) (fun _ _ => rfl))))
          pss_nil)
      (pss_cons (ps_set (i := 2) sc_law_take.nd rfl (.inl rfl) pe_int)
      (pss_cons (ps_set (i := 4) sc_law_take.nd rfl (.inl rfl) pe_int)
      (pss_cons (ps_while PassesOwn.never (pt_cmpR op_lt (pv 4) (pv 1) (nomark _))
          (pss_cons (ps_set (i := 2) sc_law_take.nd rfl (.inl rfl) (pe_op op_add (pe_op op_mul (pv 2) pe_int) (pe_own O_law_mixed (hr.mono (by decide)) (by rfl) (pa_cons (pv 3) (pa_cons (pe_op op_add (pe_ix ix_list (pv 0) pe_int (fun _ _ => rfl)) (pe_op op_mul pe_int (pe_op op_mod (pv 2) pe_int))) pa_nil)))))
            (pss_one (ps_set (i := 4) sc_law_take.nd rfl (.inl rfl) (pe_op op_mul (pv 4) pe_int)))))
      (pss_one (ps_ret (pe_op op_mod (pv 2) (pv 1)))))))))))), ?_⟩
    have nDA : D ≠ A1 := fun e => by
      rw [e, hA] at hD
      cases as <;> cases hD
    have nDB : D ≠ B := fun e => by
      rw [e, hB] at hD
      cases bs <;> cases hD
    -- one more draw
    refine ⟨.ref D, rfl, D, _, 3, .int n, rfl, rfl, SqL.of hD, atI_nat (j := 3) rfl, n, 1, rfl, rfl, .ref D, rfl, D, _, 3, 3, rfl, rfl, hD, rfl, ?_⟩
    have hD1 : (upd H D (.lst ([V.ref A1, .int c, .ref B, .int n].set 3 (.int (n + 1))))) D = some (.lst [V.ref A1, .int c, .ref B, .int (n + 1)]) := upd_same
    have hA1 : (upd H D (.lst ([V.ref A1, .int c, .ref B, .int n].set 3 (.int (n + 1))))) A1 = some (.lst (as.map V.int)) := by rw [upd_ne nDA.symm]; exact hA
    have hB1 : (upd H D (.lst ([V.ref A1, .int c, .ref B, .int n].set 3 (.int (n + 1))))) B = some (.lst (bs.map V.int)) := by rw [upd_ne nDB.symm]; exact hB
    have k1 : Kept D A1 H (upd H D (.lst ([V.ref A1, .int c, .ref B, .int n].set 3 (.int (n + 1))))) := fun b o e n1 _ => by rw [upd_ne n1]; exact e
    generalize upd H D (.lst ([V.ref A1, .int c, .ref B, .int n].set 3 (.int (n + 1)))) = H1 at hD1 hA1 hB1 k1
    clear hD hA hB
    -- the next of the great cells
    refine ⟨fun σ H2 => σ = [some (.ref D), some (.int size), none, none, none] ∧ Mids H D A1 B (n + 1) H2, ?_, ?_⟩
    · refine ⟨.ref D, rfl, D, _, 1, .int c, rfl, rfl, SqL.of hD1, atI_nat (j := 1) rfl, rfl, _, rfl, ?_⟩
      refine ite2 (fun _ => ?_) (fun _ => ?_)
      · refine ⟨.ref D, rfl, D, _, 0, .ref A1, rfl, rfl, SqL.of hD1, atI_nat (j := 0) rfl, by decide, fun N1 nN => ?_⟩
        have s2 := same_new (o := .lst []) nN
        refine ⟨_, _, .lst (SqL.of (s2 _ _ hA1)) (dp_ints as), .lst (SqL.of upd_same) .nil, shaped_ints as, shaped_ints [], _, rfl, ?_⟩
        rw [eqv_nil]
        cases as with
        | nil => exact iteF ⟨rfl, ⟨[], bs, c, s2 _ _ hD1, s2 _ _ hA1, s2 _ _ hB1⟩, fun b o e n1 n2 => s2 _ _ (k1 b o e n1 n2)⟩
        | cons a r =>
          refine iteT ?_
          refine ⟨.ref D, rfl, D, _, 0, .ref A1, rfl, rfl, SqL.of (s2 _ _ hD1), atI_nat (j := 0) rfl, .inl ⟨rfl, _, SqL.of (s2 _ _ hA1)⟩, A1, _, 0, 0, .int a, rfl, rfl, s2 _ _ hA1, by decide, by decide, ?_, rfl, ?_⟩
          · refine (ixN_seq (j := 0) ?_).1
            unfold ixN
            rw [if_pos (by decide), if_pos (by rw [List.length_map, List.length_cons]; omega)]
            rfl
          · refine ⟨.ref D, rfl, D, _, 1, 1, rfl, rfl, by rw [upd_ne nDA]; exact s2 _ _ hD1, rfl, rfl, ⟨r, bs, a, upd_same, ?_, ?_⟩, fun b o e n1 n2 => ?_⟩
            · rw [upd_ne nDA.symm, upd_same]
              rfl
            · rw [upd_ne nDB.symm, upd_ne nAB.symm]
              exact s2 _ _ hB1
            · rw [upd_ne n1, upd_ne n2]
              exact s2 _ _ (k1 b o e n1 n2)
      · exact ⟨rfl, ⟨as, bs, c, hD1, hA1, hB1⟩, k1⟩
    rintro σ2 H2 ⟨rfl, ⟨as2, bs2, c2, hD2, hA2, hB2⟩, k2⟩
    clear hD1 hA1 hB1 k1
    -- digits of a great cell
    refine ⟨.ref D, rfl, D, _, 1, .int c2, rfl, rfl, SqL.of hD2, atI_nat (j := 1) rfl, _, _, rfl, rfl, _, rfl, ite2 (fun _ => ?_) (fun _ => ?_)⟩
    · refine ⟨.ref D, rfl, D, _, 1, .int c2, rfl, rfl, SqL.of hD2, atI_nat (j := 1) rfl, _, rfl, _, _, rfl, rfl, (by show (0 : Int) < size; omega), ?_⟩
      refine ⟨.ref D, rfl, D, _, 1, .int c2, rfl, rfl, SqL.of hD2, atI_nat (j := 1) rfl, _, rfl, c2, size, rfl, rfl, ⟨by omega, by omega⟩, .ref D, rfl, D, _, 1, 1, rfl, rfl, hD2, rfl, ?_⟩
      refine ⟨_, rfl, ?_⟩
      refine k _ _ (Int.emod_nonneg _ (by omega)) (Int.emod_lt_of_pos _ (by omega)) ⟨⟨as2, bs2, c2.fdiv size, upd_same, ?_, ?_⟩, nAB, by omega⟩ (fun b o e n1 n2 => ?_)
      · rw [upd_ne nDA.symm]
        exact hA2
      · rw [upd_ne nDB.symm]
        exact hB2
      · rw [upd_ne n1]
        exact k2 b o e n1 n2
    -- a seed
    refine ⟨fun σ H3 => ∃ sd : Int, σ = [some (.ref D), some (.int size), none, some (.int sd), none] ∧ Mids H D A1 B (n + 1) H3, ?_, ?_⟩
    · refine ⟨.ref D, rfl, D, _, 2, .ref B, rfl, rfl, SqL.of hD2, atI_nat (j := 2) rfl, by decide, fun N1 nN => ?_⟩
      have s3 := same_new (o := .lst []) nN
      refine ⟨_, _, .lst (SqL.of (s3 _ _ hB2)) (dp_ints bs2), .lst (SqL.of upd_same) .nil, shaped_ints bs2, shaped_ints [], _, rfl, ?_⟩
      rw [eqv_nil]
      have M3 : Mids H D A1 B (n + 1) (upd H2 N1 (.lst [])) := ⟨⟨as2, bs2, c2, s3 _ _ hD2, s3 _ _ hA2, s3 _ _ hB2⟩, fun b o e n1 n2 => s3 _ _ (k2 b o e n1 n2)⟩
      cases bs2 with
      | nil => exact iteF ⟨17, rfl, M3⟩
      | cons b r =>
        refine iteT ?_
        have hp : (0 : Int) < (((b :: r).map V.int).length : Int) := by
          rw [List.length_map, List.length_cons]
          omega
        have m0 := Int.emod_nonneg (n + 1) (show (((b :: r).map V.int).length : Int) ≠ 0 by omega)
        have m1 := Int.emod_lt_of_pos (n + 1) hp
        obtain ⟨j, hj⟩ : ∃ j : Nat, (n + 1) % (((b :: r).map V.int).length : Int) = (j : Int) := ⟨_, (Int.toNat_of_nonneg m0).symm⟩
        have jl : j < (b :: r).length := by
          rw [hj, List.length_map] at m1
          omega
        refine ⟨.ref D, rfl, D, _, 2, .ref B, rfl, rfl, SqL.of (s3 _ _ hD2), atI_nat (j := 2) rfl, .ref D, rfl, D, _, 3, .int (n + 1), rfl, rfl, SqL.of (s3 _ _ hD2), atI_nat (j := 3) rfl, .ref D, rfl, D, _, 2, .ref B, rfl, rfl, SqL.of (s3 _ _ hD2), atI_nat (j := 2) rfl, B, _, rfl, .inl (SqL.of (s3 _ _ hB2)), _, _, rfl, rfl, hp, ?_⟩
        refine ⟨B, _, _, .int ((b :: r)[j]'jl), rfl, rfl, SqL.of (s3 _ _ hB2), ?_, ⟨_, rfl, M3⟩⟩
        rw [hj]
        refine atI_nat ?_
        rw [List.getElem?_map, List.getElem?_eq_getElem jl]
        rfl
    rintro σ3 H3 ⟨sd, rfl, M3⟩
    obtain ⟨⟨as3, bs3, c3, hD3, hA3, hB3⟩, k3⟩ := id M3
    -- the loop
    refine while_by (fun σ H4 => ∃ fd rc : Int, σ = [some (.ref D), some (.int size), some (.int fd), some (.int sd), some (.int rc)] ∧ H4 = H3 ∧ 1 ≤ rc) (fun σ _ => match σ with | [_, _, _, _, some (.int rc)] => (size - rc).toNat | _ => 0) ⟨0, 1, rfl, rfl, by decide⟩ ?_ ?_
    · rintro σ H4 ⟨fd, rc, rfl, rfl, r1⟩
      refine ⟨_, rfl, _, rfl, _, _, rfl, rfl, _, rfl, ite2 (fun lt => ?_) (fun _ => ?_)⟩
      · have lt' : rc < size := of_decide_eq_true lt
        have q0 : 0 ≤ fd % 97 := Int.emod_nonneg _ (by decide)
        have q1 : fd % 97 < 97 := Int.emod_lt_of_pos _ (by decide)
        refine ⟨_, rfl, _, _, rfl, rfl, .inr ⟨by decide, by decide⟩, _, rfl, .ref D, rfl, D, _, 3, .int (n + 1), rfl, rfl, SqL.of hD3, atI_nat (j := 3) rfl, _, rfl, _, _, rfl, rfl, (by show (0 : Int) < 97; decide), _, _, rfl, rfl, .inl ⟨by decide, by decide⟩, _, _, rfl, rfl, _, _, rfl, ?_, ?_, fun r => ?_⟩
        · generalize fd % 97 = q at q0 q1
          omega
        · generalize fd % 97 = q at q0 q1
          omega
        · refine ⟨_, _, rfl, rfl, _, rfl, _, _, rfl, rfl, .inr ⟨by decide, by decide⟩, ⟨_, _, rfl, rfl, by omega⟩, ?_⟩
          show (size - rc * 1000000007).toNat < (size - rc).toNat
          omega
      · refine ⟨_, rfl, _, rfl, _, _, rfl, rfl, (by show (0 : Int) < size; omega), ?_⟩
        exact k _ _ (Int.emod_nonneg _ (by omega)) (Int.emod_lt_of_pos _ (by omega)) ⟨⟨as3, bs3, c3, hD3, hA3, hB3⟩, nAB, by omega⟩ k3
    · rintro σ H4 Q1 Q2 i ⟨v, e1, w, e2, i1, j1, e3, e4, b, e5, q⟩
      exact ⟨v, e1, w, e2, i1, j1, e3, e4, b, e5, i _ _ q⟩

/-! ### _law_pick -/
/-- a list or a tuple that no draw touches -/
def SeqO (H : Hp) (p : Addr) (xs : List V) : Prop := H p = some (.lst xs) ∨ H p = some (.tup xs)
theorem SeqO.same {H H' : Hp} {p : Addr} {xs : List V} (h : SeqO H p xs) (k : Same H H') : SeqO H' p xs := h.elim (fun e => .inl (k _ _ e)) (fun e => .inr (k _ _ e))
theorem SeqO.kept {H H' : Hp} {p D A : Addr} {xs : List V} (h : SeqO H p xs) (k : Kept D A H H') (n1 : p ≠ D) (n2 : p ≠ A) : SeqO H' p xs := h.elim (fun e => .inl (k _ _ e n1 n2)) (fun e => .inr (k _ _ e n1 n2))
def sp_law_pick : Sp := fun vs H Q _ => ∃ (D A B p : Addr) (n : Int) (xs : List V), vs = [.ref D, .ref p] ∧ Drw H D A B n ∧ n < 1000000 ∧ SeqO H p xs ∧ p ≠ D ∧ p ≠ A ∧ 1 ≤ xs.length ∧ xs.length < 1000000 ∧
  ∀ (i : Nat) (v : V) (H' : Hp), xs[i]? = some v → Drw H' D A B (n + 1) → Kept D A H H' → Q v H'
theorem ok_law_pick {f : Addr} {fd : FuncData} {dvs : List V} (F : Fn K "_law_pick" s_law_pick dvs f fd) (O_law_take : Own P w K mg base "_law_take" 2 ["draws", "size"] [] (sp_law_take)) (m_len : mg "len" = none) : FnOk P w K mg base CX0 3 f fd ["draws", "things"] (sp_law_pick) := by
  refine Fn.okN F sc_law_pick (fun vs H Q E h => ?_) (fun cdv A outer s H vs Q E hr h => ?_)
  · obtain ⟨_, _, _, _, _, _, rfl, _⟩ := h
    rfl
  · obtain ⟨D, A1, B, p, n, xs, rfl, dr, hn, hp, pD, pA, l0, l1, k⟩ := h
    refine ⟨_, (pss_one (ps_ret (pe_ix ix_seq (pv 1) (pe_own O_law_take (hr.mono (by decide)) (by rfl) (pa_cons (pv 0) (pa_cons (pe_callB call_len_seq (by rfl) m_len PySem.boot_len (pa_cons (pv 1) pa_nil)) pa_nil))) (fun _ _ => rfl)))), ?_⟩
    refine ⟨.ref p, rfl, .ref D, rfl, .ref p, rfl, p, xs, rfl, hp.elim (fun e => .inl (SqL.of e)) (fun e => .inr (SqT.of e)), D, A1, B, n, (xs.length : Int), rfl, dr, hn, by omega, by omega, fun r H' r0 r1 dr' kp => ?_⟩
    obtain ⟨j, rfl⟩ : ∃ j : Nat, r = (j : Int) := ⟨_, (Int.toNat_of_nonneg r0).symm⟩
    have jl : j < xs.length := by omega
    have g : xs[j]? = some xs[j] := List.getElem?_eq_getElem jl
    rcases hp.kept kp pD pA with e | e
    · exact .inl ⟨p, xs, (j : Int), xs[j], rfl, rfl, SqL.of e, atI_nat g, k j _ _ g dr' kp⟩
    · exact .inr (.inl ⟨p, xs, (j : Int), xs[j], rfl, rfl, SqT.of e, atI_nat g, k j _ _ g dr' kp⟩)
end

/-! ### the mathematics of the stages, over lists of signs -/
/-- nothing but blanks -/
def isBlank (l : List Nat) : Bool := l.all fun c => c == 32 || c == 9
def MK : List Nat := [60, 66, 76, 65, 78, 75, 76, 73, 78, 69, 62]
def isMark (l : List Nat) : Bool := pre MK l && isBlank (l.drop 11)
def marksOf (w : List Nat) : List Nat := joinL [10] ((spl [10] 0 [] w).map fun l => if isMark l then [] else l)
def blanksOf (g : List Nat) : List Nat := joinL [10] ((spl [10] 0 [] g).map fun l => if isBlank l then [] else l)
def wordsOf (t : List Nat) : List Nat := joinL [32] ((spl [32] 0 [] (t.map fun c => if c == 9 || c == 10 then 32 else c)).filter fun w => !w.isEmpty)
theorem emptyEq (l : List Nat) : l.isEmpty = (l.length == 0) := by cases l <;> rfl

theorem joinL_len (S : List Nat) : ∀ {ps : List (List Nat)}, ps ≠ [] → (joinL S ps).length + S.length = (ps.map (·.length)).sum + ps.length * S.length
  | [], h => absurd rfl h
  | [p], _ => by
    show p.length + S.length = p.length + 0 + (0 + 1) * S.length
    omega
  | p :: q :: r, _ => by
    have ih := joinL_len S (ps := q :: r) (by simp)
    show (p ++ (S ++ joinL S (q :: r))).length + S.length = p.length + ((q :: r).map (·.length)).sum + ((q :: r).length + 1) * S.length
    rw [List.length_append, List.length_append, Nat.succ_mul]
    omega
theorem spl_ne (S : List Nat) : ∀ (k : Nat) (acc l : List Nat), spl S k acc l ≠ []
  | k, acc, [] => by rw [spl_nil]; simp
  | 0, acc, c :: r => by
    cases h : pre S (c :: r) with
    | true => rw [spl_hit h]; simp
    | false => rw [spl_miss h]; exact spl_ne S 0 _ r
  | k + 1, acc, _ :: r => spl_ne S k acc r
theorem small_kind {y : List Nat} (h : y.all (· < 256) = true) (x : Str) : ¬ Builtin.Str.strKind x < Builtin.Str.strKind ⟨y.toArray⟩ := kind_ok (by simpa using h)
theorem splitOf (x : Str) {y : List Nat} (hy : y ≠ []) (h : y.all (· < 256) = true) : (Txt.split x ⟨y.toArray⟩).map tl = spl y 0 [] (tl x) := split_spl x ⟨y.toArray⟩ hy (small_kind h x)
theorem joinL_spl (l : List Nat) {y : List Nat} (hy : y ≠ []) (h : y.all (· < 256) = true) : joinL y (spl y 0 [] l) = l := by
  have e := StrLaws.join_split (⟨l.toArray⟩ : Str) ⟨y.toArray⟩
  have e2 := congrArg tl e
  rw [tl_join, splitOf _ hy h] at e2
  exact e2
/-- of the parts: how long they are together, and how many -/
theorem spl_sizes (l : List Nat) {y : List Nat} (hy : y ≠ []) (h : y.all (· < 256) = true) : ((spl y 0 [] l).map (·.length)).sum ≤ l.length ∧ (spl y 0 [] l).length ≤ l.length + 1 := by
  have e := joinL_len y (spl_ne y 0 [] l)
  rw [joinL_spl l hy h] at e
  have hp : 1 ≤ y.length := List.length_pos_iff.mpr hy
  have hn : 1 ≤ (spl y 0 [] l).length := List.length_pos_iff.mpr (spl_ne y 0 [] l)
  generalize (spl y 0 [] l).length = n at e hn
  generalize ((spl y 0 [] l).map (·.length)).sum = s at e
  obtain ⟨m, rfl⟩ : ∃ m, n = m + 1 := ⟨n - 1, by omega⟩
  rw [Nat.succ_mul] at e
  have hm : m ≤ m * y.length := Nat.le_mul_of_pos_right m hp
  omega
theorem sum_map_le {α : Type} (f g : α → Nat) : ∀ (l : List α), (∀ x ∈ l, f x ≤ g x) → (l.map f).sum ≤ (l.map g).sum
  | [], _ => Nat.le_refl _
  | x :: r, h => by
    have h1 := h x (List.mem_cons_self ..)
    have h2 := sum_map_le f g r fun y hy => h y (List.mem_cons_of_mem _ hy)
    rw [List.map_cons, List.map_cons, List.sum_cons, List.sum_cons]
    omega
theorem map_lines_len (f : List Nat → List Nat) (hf : ∀ l, (f l).length ≤ l.length) (l : List Nat) {y : List Nat} (hy : y ≠ []) (h : y.all (· < 256) = true) : (joinL y ((spl y 0 [] l).map f)).length ≤ l.length := by
  have e := joinL_len y (spl_ne y 0 [] l)
  rw [joinL_spl l hy h] at e
  have e2 := joinL_len y (ps := (spl y 0 [] l).map f) (by simpa using spl_ne y 0 [] l)
  rw [List.length_map, List.map_map] at e2
  have e3 := sum_map_le (fun x => (f x).length) (fun x => x.length) (spl y 0 [] l) fun x _ => hf x
  have e4 : ((spl y 0 [] l).map ((fun x => x.length) ∘ f)).sum = ((spl y 0 [] l).map fun x => (f x).length).sum := rfl
  omega
theorem marks_len (w : List Nat) : (marksOf w).length ≤ w.length := map_lines_len _ (fun l => by split <;> simp) w (by simp) (by decide)
theorem blanks_len (w : List Nat) : (blanksOf w).length ≤ w.length := map_lines_len _ (fun l => by split <;> simp) w (by simp) (by decide)
theorem filter_sum (p : List Nat → Bool) : ∀ ps : List (List Nat), ((ps.filter p).map (·.length)).sum ≤ (ps.map (·.length)).sum
  | [] => Nat.le_refl _
  | x :: r => by
    have ih := filter_sum p r
    rw [List.filter_cons]
    split
    · rw [List.map_cons, List.map_cons, List.sum_cons, List.sum_cons]
      omega
    · rw [List.map_cons, List.sum_cons]
      omega
theorem words_len (t : List Nat) : (wordsOf t).length ≤ t.length := by
  unfold wordsOf
  generalize hu : (t.map fun c => if c == 9 || c == 10 then 32 else c) = u
  have lu : u.length = t.length := by rw [← hu, List.length_map]
  have e := joinL_len [32] (spl_ne [32] 0 [] u)
  rw [joinL_spl u (by simp) (by decide)] at e
  have l1 : ([32] : List Nat).length = 1 := rfl
  generalize hq : (spl [32] 0 [] u).filter (fun w => !w.isEmpty) = q
  have hs : (q.map (·.length)).sum ≤ ((spl [32] 0 [] u).map (·.length)).sum := by rw [← hq]; exact filter_sum _ _
  have hl : q.length ≤ (spl [32] 0 [] u).length := by rw [← hq]; exact List.length_filter_le _ _
  cases q with
  | nil => exact Nat.zero_le _
  | cons a r =>
    have e2 := joinL_len [32] (ps := a :: r) (by simp)
    rw [l1] at e e2
    omega

/-! ### stripping leaves nothing just of a blank text -/
theorem strip_blank (x : Str) (goes : Nat → Bool) : ((Txt.stripBy goes true true x).length = 0) ↔ (tl x).all goes = true := by
  rw [stripBy_eq]
  obtain ⟨h1, h2, h3⟩ := lo_facts goes x
  obtain ⟨g1, g2, g3, g4⟩ := hi_facts goes x (stripLo goes true x) h1
  have hl : (Builtin.Str.strSub x (stripLo goes true x) (stripHi goes true x (stripLo goes true x))).length = stripHi goes true x (stripLo goes true x) - stripLo goes true x := by
    rw [len_tl, tl_strSub, List.length_take, List.length_drop, ← len_tl]
    omega
  rw [hl]
  have get : ∀ k, k < x.length → x.cps.getD k 0 ∈ tl x := fun k hk => by
    have hk' : k < x.cps.size := hk
    simp [tl, Array.getD, hk']
  constructor
  · intro h
    rw [List.all_eq_true]
    intro c hc
    obtain ⟨k, hk, e⟩ := List.getElem_of_mem hc
    have hkx : k < x.length := by rw [len_tl]; exact hk
    have e2 : x.cps.getD k 0 = c := by
      have hk' : k < x.cps.size := hkx
      rw [← e]
      simp [tl, Array.getD, hk']
    rw [← e2]
    by_cases hk2 : k < stripLo goes true x
    · exact h2 k hk2
    · exact g3 k (by omega) hkx
  · intro h
    rw [List.all_eq_true] at h
    rcases h3 with e | e
    · omega
    · by_cases hlt : stripLo goes true x < x.length
      · rw [h _ (get _ hlt)] at e
        cases e
      · omega
theorem blank_strip (x : Str) : ((Txt.stripChars x ⟨#[32, 9]⟩).length = 0) ↔ isBlank (tl x) = true := by
  unfold Txt.stripChars
  rw [strip_blank]
  unfold isBlank
  have e : (fun c => (#[32, 9] : Array Nat).contains c) = fun c => (c == 32 || c == 9) := by
    funext c
    rw [Bool.eq_iff_iff, Array.contains_iff_mem]
    simp
  show (tl x).all (fun c => (#[32, 9] : Array Nat).contains c) = true ↔ _
  rw [e]
theorem starts_pre (x : Str) {y : List Nat} (hy : y ≠ []) : Txt.startswith x ⟨y.toArray⟩ = pre y (tl x) := by
  unfold Txt.startswith
  rw [Nat.zero_add]
  have h := at_iff (x := x) (y := ⟨y.toArray⟩) hy 0
  rw [List.drop_zero] at h
  unfold StrLaws.At at h
  rw [Nat.zero_add] at h
  rw [Bool.eq_iff_iff, Bool.and_eq_true, decide_eq_true_eq]
  exact h

/-! ### slices of texts -/
theorem cutS_from (z : Str) (k : Nat) : tl (cutS z (some (k : Int)) none) = (tl z).drop k := by
  show (z.cps.toList.drop (HT.sIx z.length 0 (some (k : Int)))).take (HT.sIx z.length z.length none - HT.sIx z.length 0 (some (k : Int))) = z.cps.toList.drop k
  have hl : z.cps.toList.length = z.length := (len_tl z).symm
  rw [HT.sIx_nat, HT.sIx_none]
  by_cases h : k ≤ z.length
  · rw [Nat.min_eq_left h]
    exact List.take_of_length_le (by rw [List.length_drop]; omega)
  · rw [Nat.min_eq_right (by omega), List.drop_of_length_le (by omega), List.drop_of_length_le (by omega)]
    simp
theorem cutS_to (z : Str) (k : Nat) : tl (cutS z none (some (k : Int))) = (tl z).take k := by
  show (z.cps.toList.drop (HT.sIx z.length 0 none)).take (HT.sIx z.length z.length (some (k : Int)) - HT.sIx z.length 0 none) = z.cps.toList.take k
  have hl : z.cps.toList.length = z.length := (len_tl z).symm
  rw [HT.sIx_nat, HT.sIx_none, List.drop_zero, Nat.sub_zero]
  by_cases h : k ≤ z.length
  · rw [Nat.min_eq_left h]
  · rw [Nat.min_eq_right (by omega), List.take_of_length_le (by omega), List.take_of_length_le (by omega)]
theorem cutS_mid (z : Str) (a b : Nat) (h : a ≤ z.length) : tl (cutS z (some (a : Int)) (some (b : Int))) = ((tl z).drop a).take (b - a) := by
  show (z.cps.toList.drop (HT.sIx z.length 0 (some (a : Int)))).take (HT.sIx z.length z.length (some (b : Int)) - HT.sIx z.length 0 (some (a : Int))) = (z.cps.toList.drop a).take (b - a)
  have hl : z.cps.toList.length = z.length := (len_tl z).symm
  rw [HT.sIx_nat, HT.sIx_nat, Nat.min_eq_left h]
  by_cases hb : b ≤ z.length
  · rw [Nat.min_eq_left hb]
  · rw [Nat.min_eq_right (by omega), List.take_of_length_le (by rw [List.length_drop]; omega), List.take_of_length_le (by rw [List.length_drop]; omega)]
theorem nl_eq : ("\n" : Str) = ⟨[10].toArray⟩ := ext_tl (by decide +kernel)
theorem sp_eq : (" " : Str) = ⟨[32].toArray⟩ := ext_tl (by decide +kernel)
theorem tab_eq : ("\t" : Str) = ⟨[9].toArray⟩ := ext_tl (by decide +kernel)
theorem str_at {ys : List Str} {i : Nat} {x : V} (h : (ys.map V.str)[i]? = some x) : ∃ z, x = V.str z ∧ ys[i]? = some z := by
  rw [List.getElem?_map] at h
  cases e : ys[i]? with
  | none =>
    rw [e] at h
    cases h
  | some z =>
    rw [e] at h
    exact ⟨z, (Option.some.inj h).symm, rfl⟩

/-! ### comprehensions over the signs of a text -/
theorem lc_str {x : Str} {g : TG} {tt : TT} {te : TE} {vs : List Nat} {σ : L2.St} {H1 : Hp} {D : Addr} {Qd : Hp → Prop} (Pv : Nat → Hp → Prop) (h0 : Pv 0 (upd H1 D (.lst [])))
    (hs : ∀ i c H, (tl x)[i]? = some c → Pv i H → g (.str ⟨#[c]⟩) (wipe σ vs) H fun σ2 H2 => wipe σ2 vs = wipe σ vs ∧ tt σ2 H2 fun b H3 =>
      if b = true then te σ2 H3 fun y H4 => ∃ acc, H4 D = some (.lst acc) ∧ acc.length < sizeLine ∧ Pv (i + 1) (upd H4 D (.lst (acc ++ [y]))) else Pv (i + 1) H3) (hd : ∀ H, Pv (tl x).length H → Qd H) :
    ∃ W : Nat → Nat → Hp → Prop, (∃ m, W 0 m (upd H1 D (.lst []))) ∧ ∀ i m H, W i m H →
      ((Its x).stop i H ∧ Qd H) ∨ ((Its x).go i H ∧ ∃ Nx : Hp → Prop, (∀ H', Nx H' → ∃ m', m' < m ∧ W (i + 1) m' H') ∧ ∀ y H', (Its x).yld i H y H' → g y (wipe σ vs) H' fun σ2 H2 => wipe σ2 vs = wipe σ vs ∧ tt σ2 H2 fun b H3 =>
        if b = true then te σ2 H3 fun y H4 => ∃ acc, H4 D = some (.lst acc) ∧ acc.length < sizeLine ∧ Nx (upd H4 D (.lst (acc ++ [y]))) else Nx H3) := by
  have sz : x.cps.size = (tl x).length := by simp [tl]
  refine ⟨fun i m H => m = (tl x).length - i ∧ i ≤ (tl x).length ∧ Pv i H, ⟨(tl x).length, by simp, Nat.zero_le _, h0⟩, ?_⟩
  rintro i m H ⟨rfl, hi, p⟩
  by_cases hlt : i < (tl x).length
  · refine .inr ⟨by show i < x.cps.size; omega, Pv (i + 1), fun H' p' => ⟨(tl x).length - (i + 1), by omega, rfl, hlt, p'⟩, fun y H' z => ?_⟩
    obtain ⟨e, c, hc, ey⟩ := z
    subst e ey
    exact hs i c _ (by rw [← hc]; simp [tl]) p
  · have e : i = (tl x).length := by omega
    subst e
    exact .inl ⟨by show x.cps.size ≤ (tl x).length; omega, hd H p⟩

/-! ### texts levelled: the mathematics -/
theorem exp_line {n : Nat} : ∀ (l r : List Nat) (col : Nat), (∀ c ∈ l, c ≠ 10 ∧ c ≠ 13) → Mun.expT n col (l ++ 10 :: r) = Mun.expT n col l ++ 10 :: Mun.expT n 0 r
  | [], r, col, _ => by
    rw [List.nil_append, expc (by decide), if_pos (.inl rfl)]
    rfl
  | c :: l, r, col, h => by
    have h1 := h c (List.mem_cons_self ..)
    have ih := fun k => exp_line (n := n) l r k fun d m => h d (List.mem_cons_of_mem _ m)
    rw [List.cons_append]
    by_cases e : c = 9
    · rw [e, exp9, exp9, ih, List.append_assoc]
    · rw [expc e, expc e, if_neg (fun z => z.elim h1.1 h1.2), ih]
      rfl
theorem exp_join {n : Nat} : ∀ ls : List (List Nat), (∀ l ∈ ls, ∀ c ∈ l, c ≠ 10 ∧ c ≠ 13) → Mun.expT n 0 (joinL [10] ls) = joinL [10] (ls.map (Mun.expT n 0))
  | [], _ => rfl
  | [l], _ => rfl
  | l :: m :: r, h => by
    have ih := exp_join (n := n) (m :: r) fun d z => h d (List.mem_cons_of_mem _ z)
    show Mun.expT n 0 (l ++ ([10] ++ joinL [10] (m :: r))) = Mun.expT n 0 l ++ ([10] ++ joinL [10] ((m :: r).map (Mun.expT n 0)))
    rw [← ih]
    exact exp_line l _ 0 (h l (List.mem_cons_self ..))
/-- a line widened, sign by sign -/
def stW (f : List Nat) (c : Nat) : List Nat := if c = 9 then f ++ List.replicate (8 - f.length % 8) 32 else f ++ [c]
theorem stW_all : ∀ (l f : List Nat), (∀ c ∈ l, c ≠ 10 ∧ c ≠ 13) → l.foldl stW f = f ++ Mun.expT 8 f.length l
  | [], f, _ => by
    show f = f ++ []
    rw [List.append_nil]
  | c :: l, f, h => by
    have h1 := h c (List.mem_cons_self ..)
    rw [List.foldl_cons, stW_all l _ fun d m => h d (List.mem_cons_of_mem _ m)]
    unfold stW
    by_cases e : c = 9
    · rw [if_pos e, e, exp9, List.append_assoc, List.length_append, List.length_replicate]
    · rw [if_neg e, expc e, if_neg (fun z => z.elim h1.1 h1.2), List.append_assoc, List.length_append]
      rfl
def lead (l : List Nat) : Nat := (l.takeWhile fun c => c == 32).length
theorem lead_le (l : List Nat) : lead l ≤ l.length := (List.takeWhile_sublist _).length_le
theorem lead_drop : ∀ (l : List Nat) (k : Nat), k ≤ lead l → lead (l.drop k) = lead l - k
  | [], k, h => by
    have e : k = 0 := Nat.le_zero.mp h
    subst e
    rfl
  | c :: l, 0, h => rfl
  | c :: l, k + 1, h => by
    unfold lead at h ⊢
    rw [List.takeWhile_cons] at h ⊢
    cases e : (c == 32) with
    | false =>
      rw [e] at h
      exact absurd h (Nat.not_succ_le_zero _)
    | true =>
      rw [e] at h
      have h' : k ≤ lead l := Nat.le_of_succ_le_succ h
      have ih := lead_drop l k h'
      rw [List.drop_succ_cons]
      show lead (l.drop k) = lead l + 1 - (k + 1)
      rw [ih]
      omega
theorem drop_nil_of {l : List Nat} {k : Nat} (h : k = 0) : l.drop k = l := by rw [h, List.drop_zero]
def spaces (l : List Nat) : Bool := l.all (· == 32)
/-- the least of some numbers, 0 of none -/
def leastN : List Nat → Nat
  | [] => 0
  | a :: r => r.foldl Nat.min a
theorem foldl_min : ∀ (r : List Nat) (a : Nat), r.foldl Nat.min a ≤ a ∧ (∀ y ∈ r, r.foldl Nat.min a ≤ y) ∧ (r.foldl Nat.min a = a ∨ r.foldl Nat.min a ∈ r)
  | [], a => ⟨Nat.le_refl _, fun _ h => (by cases h), .inl rfl⟩
  | b :: r, a => by
    have ih := foldl_min r (Nat.min a b)
    have m1 : Nat.min a b ≤ a := Nat.min_le_left ..
    have m2 : Nat.min a b ≤ b := Nat.min_le_right ..
    rw [List.foldl_cons]
    refine ⟨by omega, fun y h => ?_, ?_⟩
    · rcases List.mem_cons.mp h with rfl | h
      · omega
      · exact ih.2.1 y h
    · rcases ih.2.2 with e | e
      · rw [e]
        rcases Nat.le_total a b with z | z
        · exact .inl (Nat.min_eq_left z)
        · exact .inr (by rw [show Nat.min a b = b from Nat.min_eq_right z]; exact List.mem_cons_self ..)
      · exact .inr (List.mem_cons_of_mem _ e)
theorem leastN_spec {ns : List Nat} (h : ns ≠ []) : leastN ns ∈ ns ∧ ∀ y ∈ ns, leastN ns ≤ y := by
  cases ns with
  | nil => exact absurd rfl h
  | cons a r =>
    have g := foldl_min r a
    refine ⟨?_, fun y hy => ?_⟩
    · rcases g.2.2 with e | e
      · show r.foldl Nat.min a ∈ _
        rw [e]
        exact List.mem_cons_self ..
      · exact List.mem_cons_of_mem _ e
    · rcases List.mem_cons.mp hy with rfl | hy
      · exact g.1
      · exact g.2.1 y hy
theorem leastN_eq {ns : List Nat} {m : Nat} (h : m ∈ ns) (hl : ∀ y ∈ ns, m ≤ y) : m = leastN ns := by
  have g := leastN_spec (ns := ns) (by rintro rfl; cases h)
  have a := hl _ g.1
  have b := g.2 _ h
  omega
theorem leastN_int {ns : List Nat} {m : Int} (h : m ∈ ns.map (fun n : Nat => (n : Int))) (hl : ∀ y ∈ ns.map (fun n : Nat => (n : Int)), m ≤ y) : m = (leastN ns : Nat) := by
  obtain ⟨k, hk, rfl⟩ := List.mem_map.mp h
  rw [leastN_eq hk fun y hy => Int.ofNat_le.mp (hl _ (List.mem_map.mpr ⟨y, hy, rfl⟩))]
/-- the least indent of lines that are not blank -/
def leads (ws : List (List Nat)) : List Nat := (ws.filter fun l => !spaces l).map lead
def levW (ws : List (List Nat)) : List (List Nat) := ws.map (·.drop (leastN (leads ws)))
theorem spaces_drop {l : List Nat} {k : Nat} (hk : k ≤ lead l) : spaces (l.drop k) = spaces l := by
  cases e : spaces l with
  | true =>
    unfold spaces at e ⊢
    rw [List.all_eq_true] at e ⊢
    exact fun c hc => e c (List.mem_of_mem_drop hc)
  | false =>
    cases e2 : spaces (l.drop k) with
    | false => rfl
    | true =>
      have h1 : (l.take k).all (· == 32) = true := by
        have hp : l.take k <+: l.takeWhile (fun c => c == 32) := by
          refine List.prefix_of_prefix_length_le (List.take_prefix k l) (List.takeWhile_prefix _) ?_
          exact Nat.le_trans (List.length_take_le ..) hk
        rw [List.all_eq_true]
        intro c hc
        exact List.all_eq_true.mp (List.all_takeWhile (p := fun c => c == 32) (l := l)) c (hp.subset hc)
      have h2 : spaces l = true := by
        unfold spaces at e2 ⊢
        rw [← List.take_append_drop k l, List.all_append, h1, e2]
        rfl
      rw [h2] at e
      cases e
theorem levW_again (ws : List (List Nat)) : levW (levW ws) = levW ws := by
  have key : leastN (leads (levW ws)) = 0 := by
    unfold levW
    generalize hm : leastN (leads ws) = m
    have hle : ∀ l ∈ ws, spaces l = false → m ≤ lead l := fun l hl hs => by
      have h : lead l ∈ leads ws := List.mem_map.mpr ⟨l, List.mem_filter.mpr ⟨hl, by rw [hs]; rfl⟩, rfl⟩
      rw [← hm]
      exact (leastN_spec (ns := leads ws) (fun z => by rw [z] at h; cases h)).2 _ h
    have hsp : ∀ l ∈ ws, spaces (l.drop m) = spaces l := fun l hl => by
      cases hs : spaces l with
      | false => rw [spaces_drop (hle l hl hs), hs]
      | true =>
        unfold spaces at hs ⊢
        rw [List.all_eq_true] at hs ⊢
        exact fun c hc => hs c (List.mem_of_mem_drop hc)
    by_cases hn : leads ws = []
    · have e2 : leads (ws.map (·.drop m)) = [] := by
        unfold leads at hn ⊢
        rw [List.map_eq_nil_iff, List.filter_eq_nil_iff] at hn ⊢
        intro l hl
        obtain ⟨l', hl', rfl⟩ := List.mem_map.mp hl
        show ¬ (!spaces (l'.drop m)) = true
        rw [hsp l' hl']
        exact hn l' hl'
      rw [e2]
      rfl
    · have g := leastN_spec hn
      rw [hm] at g
      obtain ⟨l, hl, e⟩ := List.mem_map.mp g.1
      obtain ⟨hl1, hl2⟩ := List.mem_filter.mp hl
      have hl3 : spaces l = false := by
        cases z : spaces l with
        | false => rfl
        | true =>
          rw [z] at hl2
          cases hl2
      have h0 : (0 : Nat) ∈ leads (ws.map (·.drop m)) := by
        refine List.mem_map.mpr ⟨l.drop m, List.mem_filter.mpr ⟨List.mem_map.mpr ⟨l, hl1, rfl⟩, ?_⟩, ?_⟩
        · rw [hsp l hl1, hl3]
          rfl
        · rw [lead_drop l m (by omega)]
          omega
      exact (leastN_eq h0 fun y _ => Nat.zero_le y).symm
  show (levW ws).map (·.drop (leastN (leads (levW ws)))) = levW ws
  rw [key]
  exact (List.map_congr_left fun l _ => List.drop_zero).trans (List.map_id _)
theorem lead_at : ∀ (l : List Nat), spaces l = false → ∃ c, l[lead l]? = some c ∧ (c == 32) = false ∧ ∀ (m d : Nat), m < lead l → l[m]? = some d → (d == 32) = true
  | [], h => by cases h
  | c :: l, h => by
    unfold lead
    rw [List.takeWhile_cons]
    cases e : (c == 32) with
    | false => exact ⟨c, rfl, e, fun m d hm _ => absurd hm (Nat.not_lt_zero _)⟩
    | true =>
      have h' : spaces l = false := by
        unfold spaces at h ⊢
        rw [List.all_cons, e] at h
        exact h
      obtain ⟨d, h1, h2, h3⟩ := lead_at l h'
      refine ⟨d, h1, h2, fun m g hm hg => ?_⟩
      cases m with
      | zero =>
        cases hg
        exact e
      | succ m => exact h3 m g (Nat.lt_of_succ_lt_succ hm) hg
theorem lead_by (goes : Nat → Bool) : ∀ (l : List Nat) (n : Nat), n ≤ l.length → (∀ k c, k < n → l[k]? = some c → goes c = true) → (n = l.length ∨ ∃ c, l[n]? = some c ∧ goes c = false) → (l.takeWhile goes).length = n
  | [], n, h, _, _ => (Nat.le_zero.mp h).symm
  | c :: l, 0, _, _, h3 => by
    rcases h3 with h3 | ⟨d, h3, h4⟩
    · cases h3
    · cases h3
      rw [List.takeWhile_cons, h4]
      rfl
  | c :: l, n + 1, h1, h2, h3 => by
    rw [List.takeWhile_cons, h2 0 c (Nat.zero_lt_succ _) rfl]
    show (l.takeWhile goes).length + 1 = n + 1
    rw [lead_by goes l n (Nat.le_of_succ_le_succ h1) (fun k d hk hd => h2 (k + 1) d (Nat.succ_lt_succ hk) hd) (h3.elim (fun z => .inl (Nat.succ.inj z)) .inr)]
theorem lstrip_len (x : Str) (goes : Nat → Bool) : (Txt.stripBy goes true false x).length = x.length - ((tl x).takeWhile goes).length := by
  rw [stripBy_eq]
  obtain ⟨h1, h2, h3⟩ := lo_facts goes x
  have hh : stripHi goes false x (stripLo goes true x) = x.length := rfl
  rw [hh]
  have hl : (Builtin.Str.strSub x (stripLo goes true x) x.length).length = x.length - stripLo goes true x := by
    rw [len_tl, tl_strSub, List.length_take, List.length_drop, ← len_tl]
    omega
  rw [hl]
  have get : ∀ k c, (tl x)[k]? = some c → x.cps.getD k 0 = c := fun k c h => by
    have hk := (List.getElem?_eq_some_iff.mp h).1
    have hk' : k < x.cps.size := by simpa [tl] using hk
    have e2 := (List.getElem?_eq_some_iff.mp h).2
    rw [← e2]
    simp [tl, Array.getD, hk']
  rw [lead_by goes (tl x) (stripLo goes true x) (by rw [← len_tl]; exact h1) (fun k c hk hc => by rw [← get k c hc]; exact h2 k hk) ?_]
  rcases h3 with e | e
  · exact .inl (by rw [e, len_tl])
  · by_cases hlt : stripLo goes true x < (tl x).length
    · refine .inr ⟨(tl x)[stripLo goes true x], List.getElem?_eq_getElem hlt, ?_⟩
      rw [← get _ _ (List.getElem?_eq_getElem hlt)]
      exact e
    · rw [len_tl] at h1
      exact .inl (by omega)
theorem contains_one (c : Nat) : (#[c] : Array Nat).contains = fun d => d == c := by
  funext d
  rw [Bool.eq_iff_iff, Array.contains_iff_mem]
  simp
theorem indent_len (x : Str) : (x.length : Int) - ((Txt.lstripChars x ⟨#[32]⟩).length : Int) = (lead (tl x) : Nat) := by
  have h : (Txt.lstripChars x ⟨#[32]⟩).length = x.length - lead (tl x) := by
    unfold Txt.lstripChars
    rw [contains_one]
    exact lstrip_len x _
  have h2 := lead_le (tl x)
  rw [← len_tl] at h2
  omega
theorem spaces_strip (x : Str) : ((Txt.stripChars x ⟨#[32]⟩).length = 0) ↔ spaces (tl x) = true := by
  unfold Txt.stripChars
  rw [strip_blank, contains_one]
  exact Iff.rfl

/-! ### min(a list of ints, default=an int) -/
section
variable {prog : Program} {w : World} {A : Around} {R : Result → Shared → Prop} {I S : Addr} {fp wr : List Addr} {arr : Array Value} {St : Nat → Heap → Prop} {val : Nat → Int} {kw : List (Str × Value)}
theorem minD_run (W : Walks prog w A.in1 I fp wr arr.size (fun i v => arr[i]? = some v) St) (cmp : CmpOf prog w A.in1 .Lt (fun i v => arr[i]? = some v) fun i j => decide (val i < val j)) (nS : S ∉ fp) :
    ∀ (k j b : Nat) (u : Shared) (x : Value) (c : Nat), arr.size = j + 1 + k → b ≤ j → (∀ i, i ≤ j → val b ≤ val i) → St (j + 1) u.heap → arr[b]? = some x →
      u.heap.get? S = some { cls := .type "list", dict := none, data := .seq #[x, x] c, slots := #[] } →
      (∀ b x h' tk, arr[b]? = some x → (∀ i, i < arr.size → val b ≤ val i) → (∀ a o, a ∉ wr → a ≠ S → u.heap.get? a = some o → h'.get? a = some o) → R (.ok (.ret x)) { u with heap := h', toks := tk }) →
      codeAny (model prog w) A (.builtin "min.loop" ⟨[.ref I, .none, .ref S], kw⟩) R u := by
  have nW : S ∉ wr := fun z => nS (W.sub _ z)
  have idn : (toString "min" ++ toString ".loop" : String) = "min.loop" := by decide +kernel
  intro k
  induction k with
  | zero =>
    intro j b u x c ek hb hv pos hx gS done
    refine codeAny_builtin F.entry_min_loop ?_; rw [Around.under_plainId F.plain_min_loop _]
    show wpAny _ A.in1 (seqItems? (.ref S) >>= _) _ _ u
    refine wpAny_bind (wpAny_seqItems gS rfl ?_)
    show wpAny _ A.in1 (tryCatch (pyNext (.ref I)) _ >>= _) _ _ u
    refine wpAny_bind (wpAny_tryCatch (W.done u _ _ (by rw [ek]; exact pos) fun h1 tk1 old1 => ?_))
    show wpAny _ A.in1 (updateSeq S (fun _ => #[]) >>= _) _ _ _; refine wpAny_bind ?_
    refine wpAny_updateSeq (old1 S _ nW gS) rfl (wpAny_bind (wpAny_letGo (wpAny_pure ?_)))
    exact done b x _ tk1 hx (fun i hi => hv i (by omega)) fun a o ha hne e => (Heap.get?_update_other _ _ (Ne.symm hne)).trans (old1 a o ha e)
  | succ k next =>
    intro j b u x c ek hb hv pos hx gS done
    refine codeAny_builtin F.entry_min_loop ?_; rw [Around.under_plainId F.plain_min_loop _]
    show wpAny _ A.in1 (seqItems? (.ref S) >>= _) _ _ u
    refine wpAny_bind (wpAny_seqItems gS rfl ?_)
    show wpAny _ A.in1 (tryCatch (pyNext (.ref I)) _ >>= _) _ _ u
    refine wpAny_bind (wpAny_tryCatch (W.item (j + 1) u _ _ (by omega) pos fun y h1 tk1 hy pos1 old1 => ?_))
    have gS1 := old1 S _ nW gS
    show wpAny _ A.in1 (tryCatch (holding [y, y] (richCompare .Lt y x >>= _)) _ >>= _) _ _ _
    refine wpAny_bind (wpAny_tryCatch (wpAny_holding (wpAny_bind (cmp (j + 1) b y x _ _ _ hy hx ?_))))
    refine wpAny_bind (wpAny_holding (wpAny_truthy_bool ?_)); refine wpAny_bind (wpAny_letGo (wpAny_pure ?_))
    by_cases lt : val (j + 1) < val b
    · rw [if_pos (show (fun i j => decide (val i < val j)) (j + 1) b = true from decide_eq_true lt)]
      refine wpAny_bind ?_; refine wpAny_updateSeq gS1 rfl (wpAny_bind (wpAny_letGo ?_)); rw [idn]
      refine wpAny_pure ⟨plainId_quiet F.plain_min_loop _, next (j + 1) (j + 1) _ y _ (by omega) (Nat.le_refl _) (fun i hi => ?_) (W.frame _ _ _ pos1 fun a ha o e => ?_) hy (Heap.get?_update_self _ gS1 rfl) fun b' x' h2 tk2 e1 e2 old2 => ?_⟩
      · by_cases hi2 : i = j + 1
        · rw [hi2]
          exact Int.le_refl _
        · have := hv i (by omega)
          omega
      · exact (Heap.get?_update_other _ _ (fun z : S = a => nS (z ▸ ha))).trans e
      · exact done b' x' h2 tk2 e1 e2 fun a o ha hne e => old2 a o ha hne ((Heap.get?_update_other _ _ (Ne.symm hne)).trans (old1 a o ha e))
    · rw [if_neg (show ¬ (fun i j => decide (val i < val j)) (j + 1) b = true from fun z => lt (of_decide_eq_true z))]
      refine wpAny_bind (wpAny_letGo ?_); rw [idn]
      refine wpAny_pure ⟨plainId_quiet F.plain_min_loop _, next (j + 1) b _ x c (by omega) (by omega) (fun i hi => ?_) pos1 hx gS1 fun b' x' h2 tk2 e1 e2 old2 => ?_⟩
      · by_cases hi2 : i = j + 1
        · rw [hi2]
          omega
        · exact hv i (by omega)
      · exact done b' x' h2 tk2 e1 e2 fun a o ha hne e => old2 a o ha hne (old1 a o ha e)
theorem minD_from (W : Walks prog w A.in1 I fp wr arr.size (fun i v => arr[i]? = some v) St) (cmp : CmpOf prog w A.in1 .Lt (fun i v => arr[i]? = some v) fun i j => decide (val i < val j)) (nS : S ∉ fp) {d : Value} {z : Str}
    {u : Shared} {c : Nat} (pos : St 0 u.heap) (gS : u.heap.get? S = some { cls := .type "list", dict := none, data := .seq #[] c, slots := #[] })
    (dflt : ∀ h' tk, arr.size = 0 → (∀ a o, a ∉ wr → a ≠ S → u.heap.get? a = some o → h'.get? a = some o) → R (.ok (.ret d)) { u with heap := h', toks := tk })
    (done : ∀ b x h' tk, arr[b]? = some x → (∀ i, i < arr.size → val b ≤ val i) → (∀ a o, a ∉ wr → a ≠ S → u.heap.get? a = some o → h'.get? a = some o) → R (.ok (.ret x)) { u with heap := h', toks := tk }) :
    codeAny (model prog w) A (.builtin "min.loop" ⟨[.ref I, .none, .ref S], [(z, d)]⟩) R u := by
  have nW : S ∉ wr := fun z => nS (W.sub _ z)
  have idn : (toString "min" ++ toString ".loop" : String) = "min.loop" := by decide +kernel
  refine codeAny_builtin F.entry_min_loop ?_; rw [Around.under_plainId F.plain_min_loop _]
  show wpAny _ A.in1 (seqItems? (.ref S) >>= _) _ _ u
  refine wpAny_bind (wpAny_seqItems gS rfl ?_)
  show wpAny _ A.in1 (tryCatch (pyNext (.ref I)) _ >>= _) _ _ u
  by_cases h0 : arr.size = 0
  · refine wpAny_bind (wpAny_tryCatch (W.done u _ _ (by rw [h0]; exact pos) fun h1 tk1 old1 => ?_))
    refine wpAny_bind (wpAny_rule (wpAny_pure ?_))
    exact dflt h1 tk1 h0 fun a o ha _ e => old1 a o ha e
  · refine wpAny_bind (wpAny_tryCatch (W.item 0 u _ _ (by omega) pos fun y h1 tk1 hy pos1 old1 => ?_))
    have gS1 := old1 S _ nW gS
    show wpAny _ A.in1 (updateSeq S (fun _ => #[y, y]) >>= _) _ _ _; refine wpAny_bind ?_
    refine wpAny_updateSeq gS1 rfl ?_; rw [idn]
    refine wpAny_pure ⟨plainId_quiet F.plain_min_loop _, minD_run W cmp nS (arr.size - 1) 0 0 _ y _ (by omega) (Nat.le_refl _) (fun i hi => by rw [Nat.le_zero.mp hi]; exact Int.le_refl _) (W.frame _ _ _ pos1 fun a ha o e => ?_) hy (Heap.get?_update_self _ gS1 rfl) fun b' x' h2 tk2 e1 e2 old2 => ?_⟩
    · exact (Heap.get?_update_other _ _ (fun z : S = a => nS (z ▸ ha))).trans e
    · exact done b' x' h2 tk2 e1 e2 fun a o ha hne e => old2 a o ha hne ((Heap.get?_update_other _ _ (Ne.symm hne)).trans (old1 a o ha e))
end
theorem minD_args (a v : Value) : argsOk "min" ⟨[a], [(Str.ofString "default", v)]⟩ := by unfold argsOk; kernel_rfl
theorem minD_raw {prog : Program} {w : World} {A : Around} {E : Value → Shared → Prop} {s : Shared} {l : Addr} {its : List Value} {ns : List Int} {d : Value} {Q : Value → Shared → Prop} (hh : A.handled = none) (hl : s.heap.IsList l its.toArray) (hi : IntsAre its ns)
    (dflt : ∀ h' tk, ns = [] → (∀ a o, s.heap.get? a = some o → h'.get? a = some o) → Q d { s with heap := h', toks := tk })
    (done : ∀ h' tk m t, m ∈ ns → (∀ y ∈ ns, m ≤ y) → (∀ a o, s.heap.get? a = some o → h'.get? a = some o) → Q (.int m t) { s with heap := h', toks := tk }) :
    wpAny (model prog w) A (call (.builtin "min") [.ref l] [(Str.ofString "default", d)]) Q E s := by
  obtain ⟨xs, e⟩ := hi.allInts.items
  have hn : numsOf (intItems xs).toList = ns := by rw [← e]; exact hi.numsOf
  rw [nums_intItems] at hn
  subst hn
  rw [e] at hl
  have idn : (toString "min" ++ toString ".loop" : String) = "min.loop" := by decide +kernel
  have ld : ∀ i, i < (intItems xs).size → ∃ p, xs.toList[i]? = some p ∧ numAt xs i = p.1 := fun i hlt => by
    have hlt' : i < xs.size := by simpa [intItems] using hlt
    refine ⟨xs[i], by simp [hlt'], by simp [numAt, hlt']⟩
  refine kmk_tree F.kind_min F.plain_min F.entry_min (minD_args _ _) ?_
  show wpAny _ A.in1 (Builtin.Builtins.bindParams "min" ["key", "default"] 0 ⟨[], [(Str.ofString "default", d)]⟩ >>= _) _ _ s
  refine wpAny_bind (wpAny_of_eq (show Builtin.Builtins.bindParams "min" ["key", "default"] 0 ⟨[], [(Str.ofString "default", d)]⟩ = pure [none, some d] from rfl) ?_)
  refine wpAny_bind (wpAny_pure (wpAny_bind (iter_intList hl fun s2 e2 pos hfp hlI => ?_)))
  subst e2
  refine wpAny_bind (wpAny_newObj_type ?_); rw [idn]
  have nS : (s.heap.push { cls := .type "list_iterator", data := .fields #[.ref l, .int 0 0] }).objs.size ∉ [s.heap.objs.size, l] := fun z => Nat.lt_irrefl _ (hfp _ z)
  have W := Walks.list (prog := prog) (w := w) (A := A.in1) hh _ l hlI (intItems xs)
  have old : ∀ h' : Heap, (∀ a o, a ∉ [s.heap.objs.size] → a ≠ (s.heap.push { cls := .type "list_iterator", data := .fields #[.ref l, .int 0 0] }).objs.size → ((s.heap.push { cls := .type "list_iterator", data := .fields #[.ref l, .int 0 0] }).push { cls := .type "list", data := .seq #[] }).get? a = some o → h'.get? a = some o) → ∀ a o, s.heap.get? a = some o → h'.get? a = some o := fun h' k a o g => by
    have lt := Heap.lt_size g
    refine k a o (fun z => ?_) (fun z => ?_) (Heap.get?_push_of_some _ (Heap.get?_push_of_some _ g))
    · rw [List.mem_singleton.mp z] at lt
      exact Nat.lt_irrefl _ lt
    · rw [z, Heap.size_push] at lt
      exact Nat.lt_irrefl _ (Nat.lt_of_succ_lt lt)
  refine wpAny_pure ⟨plainId_quiet F.plain_min_loop _, minD_from W (CmpOf.ints_lt (numAt xs) (fun _ _ => intItems_at)) nS (W.frame _ _ _ pos fun a _ o g => Heap.get?_push_of_some _ g) (Heap.get?_push_size _ rfl) (fun h' tk h0 k => ?_) fun b x h' tk hx hle k => ?_⟩
  · refine dflt h' tk ?_ (old h' k)
    have hz : xs.toList.length = 0 := by simpa [intItems] using h0
    rw [List.length_eq_zero_iff.mp hz]
    rfl
  · obtain ⟨t, rfl⟩ := intItems_at hx
    obtain ⟨p, hp, ep⟩ := ld b (Array.getElem?_eq_some_iff.mp hx).1
    refine done h' tk _ t ?_ (fun y hy => ?_) (old h' k)
    · rw [ep]
      exact List.mem_map.mpr ⟨p, List.mem_of_getElem? hp, rfl⟩
    · obtain ⟨q, hq, rfl⟩ := List.mem_map.mp hy
      obtain ⟨i, hi', rfl⟩ := List.getElem_of_mem hq
      have hlt : i < (intItems xs).size := by simpa [intItems] using hi'
      obtain ⟨q, hq2, eq⟩ := ld i hlt
      rw [List.getElem?_eq_getElem hi'] at hq2
      cases hq2
      rw [← eq]
      exact hle i hlt
def rMinD (K : PySem.W.Frag) : List V → List V → Hp → VK → Prop := fun vs zs H Q => ∃ (a : Addr) (ns : List Int) (d : Int), vs = [V.ref a] ∧ zs = [.int d] ∧ SqL K H a (ns.map V.int) ∧ ∀ m, (ns = [] ∧ m = d) ∨ (m ∈ ns ∧ ∀ y, y ∈ ns → m ≤ y) → Q (.int m) H
theorem cr_minD {X : Cx} (hc : X.calm = true) : CallRK X (.builtin "min") ["default"] (rMinD X.K) := by
  intro pins s σ H xs zs us ws Q I r1 r2 h
  obtain ⟨a, ns, d, rfl, rfl, sq, q⟩ := h
  obtain ⟨its, rv, hl, _⟩ := I.list sq
  rw [Vals.ref1 r1]
  cases r2 with
  | cons r rr =>
    cases rr
    obtain ⟨t, rfl⟩ := r
    exact minD_raw (I.ok.hd hc) hl.isList rv.ints (fun h' tk e k => ⟨.int _, H, I.kept k, ⟨_, rfl⟩, q d (.inl ⟨e, rfl⟩)⟩) fun h' tk m t' h1 h2 k => ⟨.int _, H, I.kept k, ⟨_, rfl⟩, q m (.inr ⟨h1, h2⟩)⟩

/-! ### (*xs, y) = a list -/
section
variable {prog : Program} {w : World} {A : Around} {E : Value → Shared → Prop} {s : Shared}
theorem star_front {l : Addr} {items : Array Value} {Q : List Value → Shared → Prop} (hl : s.heap.IsList l items) (hh : A.handled = none) (h1 : 1 ≤ items.size) (hz : items.size ≤ 16384)
    (h : ∀ (h' : Heap) (tk : Nat), (∀ b o, s.heap.get? b = some o → h'.get? b = some o) →
      Q (.ref h'.objs.size :: items.toList.drop (items.size - 1)) { s with heap := h'.push { cls := .type "list", data := .seq (items.toList.take (items.size - 1)).toArray }, toks := tk }) :
    wpAny (model prog w) A (unpackItems (.ref l) 2 (some 0)) Q E s := by
  have hl2 := hl
  obtain ⟨ob, hob, _⟩ := hl2
  have sz := Heap.lt_size hob
  have ne : l ≠ s.heap.objs.size := Nat.ne_of_lt sz
  unfold unpackItems notIterableAtAll
  refine wpAny_bind (wpAny_bind (wpAny_specialOf hl.typeIs slot_list_iter.lookup (wpAny_pure ?_)))
  rw [if_neg (by decide)]
  refine wpAny_bind (wpAny_holding (wpAny_pyIter_list hl (wpAny_bind (wpAny_holding (wpAny_pure ?_)))))
  rw [if_neg (Nat.not_lt_zero _)]
  refine wpAny_bind (wpAny_holding (PySem.W.kun_collect (T := "list_iterator") (items := items) (.inr (.inr (.inl rfl))) (Walks.list (A := A.in1) hh s.heap.objs.size l ne items) (fun _ _ z => z.1.typeIs) (k := 0) (Nat.zero_le _) ⟨⟨_, Heap.get?_push_size _ rfl, rfl, rfl⟩, hl.push _⟩ ?_ ?_ (fun h2 tk kp => ?_) ?_))
  · rw [Heap.size_push]
    exact Nat.lt_succ_self _
  · rw [Heap.size_push]
    exact Nat.lt_succ_of_lt sz
  · have ln : items.toList.length = items.size := Array.length_toList
    rw [List.drop_zero]
    show wpAny _ _ (if items.toList.length < 1 then _ else _) _ _ _
    rw [if_neg (by omega)]
    refine wpAny_bind (wpAny_newList (wpAny_pure ?_) ?_)
    · show Q ([] ++ [Value.ref h2.objs.size] ++ items.toList.drop (items.toList.length - 1)) _
      rw [ln]
      exact h h2 tk fun b o e => kp b o (Nat.ne_of_lt (Heap.lt_size e)) (Heap.get?_push_of_some _ e)
    · rw [List.length_take, sizeLine_eq]
      omega
  · rw [sizeLine_eq]
    omega
end
theorem vals_last : ∀ {xs : List V} {y : V} {its : List Value}, Vals (xs ++ [y]) its → ∃ us z, its = us ++ [z] ∧ Vals xs us ∧ RelV y z
  | [], y, its, h => by
    cases h with
    | cons r rr =>
      cases rr
      exact ⟨[], _, rfl, .nil, r⟩
  | x :: xs, y, its, h => by
    cases h with
    | cons r rr =>
      obtain ⟨us, z, e, a, b⟩ := vals_last rr
      exact ⟨_ :: us, z, by rw [e]; rfl, .cons r a, b⟩
def gStar (K : PySem.W.Frag) (t : TGs) : TG := fun v σ H Q => ∃ (l : Addr) (xs : List V) (y : V), v = .ref l ∧ SqL K H l (xs ++ [y]) ∧ xs.length ≤ 16000 ∧ ∀ D, H D = none → t [.ref D, y] σ (upd H D (.lst xs)) Q
theorem pg_star {X : Cx} {e f : Expr} {k : Nat} {p pos : Pos} {t : TGs} (hc : X.calm = true) (h : PGs X [e, f] t)
    (hn : (assignEach [.Starred e p, f] X.env).length = 2 := by rfl) (hst : (assignEach [.Starred e p, f] X.env).findIdx? (·.1) = some 0 := by rfl)
    (hm : (assignEach [.Starred e p, f] X.env).map (·.2) = (assignEach [e, f] X.env).map (·.2) := by rfl) : PG X (.Tuple [.Starred e p, f] k pos) (gStar X.K t) := by
  refine ⟨fun pins s σ H v u Q I r hw => ?_⟩
  obtain ⟨l, xs, y, e1, hq, hz, hw⟩ := hw
  subst e1
  cases r
  obtain ⟨its, rv, ht, hz2⟩ := I.list hq
  obtain ⟨us, z, rfl, r1, r2⟩ := vals_last rv
  have lu : xs.length = us.length := r1.length
  have sz : (us ++ [z]).toArray.size = us.length + 1 := by simp
  rw [assign_Tuple]
  refine wpAny_bind (wpAny_standAt ?_)
  unfold unpack
  rw [hn, hst]
  refine wpAny_bind (wpAny_holding (star_front ht.isList (I.ok.hd hc) (by omega) (by omega) fun h' tk kp => ?_))
  rw [hm, sz]
  have e1 : (us ++ [z]).toArray.toList.take (us.length + 1 - 1) = us := by simp
  have e2 : (us ++ [z]).toArray.toList.drop (us.length + 1 - 1) = [z] := by simp
  rw [e1, e2]
  have I1 : Inv X pins σ H { s with heap := h', toks := tk } := I.kept (t' := tk) kp
  have hf : H h'.objs.size = none := I1.hok.fresh (Nat.le_refl _)
  have I2 : Inv X pins σ (upd H h'.objs.size (.lst xs)) { s with heap := h'.push { cls := .type "list", data := .seq us.toArray }, toks := tk } := I1.laid (t' := tk) (fun b u q => Heap.get?_push_of_some _ q) (Nat.le_refl _) ⟨by rw [sizeLine_eq]; omega, us, 0, r1, Heap.get?_push_size _ rfl⟩
  exact h.run pins _ σ _ [.ref h'.objs.size, y] [.ref h'.objs.size, z] Q I2 (.cons rfl (.cons r2 .nil)) (hw _ hf)

/-! ### own classes: made by name, their fields within comprehensions -/
theorem vals_app : ∀ {vs : List V} {us : List Value} {zs : List V} {ws : List Value}, Vals vs us → Vals zs ws → Vals (vs ++ zs) (us ++ ws)
  | _, _, _, _, .nil, r => r
  | _, _, _, _, .cons a b, r => .cons a (vals_app b r)
structure OwnC (P : Program) (w : World) (K : PySem.W.Frag) (mg : Str → Option Value) (base : Heap) (x : Str) (C : Addr) (k : Nat) (ps ks : List Str) (n : Nat) (sp : Sp) : Prop where
  ex : ∃ f fd g, Mk K C f ∧ FnOk P w K mg base CX0 k f fd ps sp ∧ KBn K fd ps (n + 1) ks g (fun vs zs => vs ++ zs) ∧ mg x = some (.ref C)
theorem pe_ownC {X : Cx} {x : Str} {C : Addr} {k n : Nat} {ps ks : List Str} {sp : Sp} {e : Expr} {es : List Expr} {kws : List Keyword} {t tk : TA} {p pos : Pos} (O : OwnC X.prog X.w X.K X.mg X.base x C k ps ks n sp) (hr : Room (k + 1) X.A) (hg : Gl X x) (ha : PA X (e :: es) t) (hkw : PK X kws tk)
    (hall : (backToKw pos (keywordEach kws X.env)).all (·.1.isSome) = true := by rfl) (hks : (backToKw pos (keywordEach kws X.env)).filterMap (·.1) = ks := by rfl) (hdb : (x == ("__debug__" : Str)) = false := by decide) (he : starEach (e :: es) X.env = (false, eval e X.env) :: starEach es X.env := by rfl)
    (hpl : ((backTo pos (starEach (e :: es) X.env)).any (·.1) || (backToKw pos (keywordEach kws X.env)).any (·.1.isNone)) = false := by rfl) : PE X (.Call (.Name x p) (e :: es) kws pos) (tMakeK C n ks.length sp (fun vs zs => vs ++ zs) E0 t tk) := by
  obtain ⟨f, fd, g, M, F, hb, hm⟩ := O.ex
  exact pe_makeK M F hr hg hm hb pass0 ha hkw hall hks hdb he hpl
theorem FunD_okN {P : Program} {w : World} {K : PySem.W.Frag} {mg : Str → Option Value} {base : Heap} {x qual : Str} {params : Arguments} {body : List Stmt} {scope : Scope} {dvs : List V} {kws : List (Str × V)} {f : Addr} {fd : FuncData} {N ps : List Str} {k : Nat} {sp : Sp}
    (F : FunD K x qual params body scope dvs kws f fd) (S : FnScope N ps scope) (len : ∀ vs H Q E, sp vs H Q E → vs.length = ps.length)
    (hbody : ∀ (cdv : Value) (A : Around) (outer : List Env) (s : Shared) (H : Hp) (vs : List V) (Q : VK) (E : XK), Room k (A.deeper (envOfC qual scope s.heap.objs.size f cdv)) → sp vs H Q E →
      ∃ t, PSs (cxOf CX0 P w K mg base N qual scope f cdv A outer s H E).nox body t ∧ t { nx := fun _ H' => Q .non H', rt := Q } (start N vs) H) : FnOk P w K mg base CX0 (k + 1) f fd ps sp :=
  FunD.ok F S len fun cdv A outer s H vs Q E hr hsp => by
    obtain ⟨t, h, q⟩ := hbody cdv A outer s H vs Q E hr hsp
    exact ⟨t, h.nox, q⟩
theorem pe_fldK {X : Cx} {K' : PySem.W.Frag} (hK : X.K = K') {e : Expr} {ta : TE} {f : Str} {pos : Pos} (he : PE X e ta) (hb : attributeBase e f X.env (eval e X.env) = eval e X.env) : PE X (.Attribute e f pos) (tFld K' ta f) := by
  subst hK
  exact pe_fld he hb
theorem call_isiK {X : Cx} {K' : PySem.W.Frag} (hK : X.K = K') : CallR X (.builtin "isinstance") (rIsi K') := by
  subst hK
  exact call_isi
def tReplN (y z : Str) (to : TE) : TE := fun σ H Q => to σ H fun x H1 => ∃ a : Str, x = .str a ∧ (Builtin.Str.occurrences a y 0 a.length (a.length + 1)).isEmpty = true ∧ Q (.str a) H1
theorem replN {prog : Program} {w : World} {A : Around} {E : Value → Shared → Prop} {s : Shared} {x y z : Str} {t u v : Tok} {Q : Value → Shared → Prop} (h : (Builtin.Str.occurrences x y 0 x.length (x.length + 1)).isEmpty = true) (hq : ∀ t' k, Q (.str x t') { s with toks := k }) :
    wpAny (model prog w) A (call (.builtin "str.replace") [.str x t, .str y u, .str z v]) Q E s := by
  refine wpAny_call (codeAny_call_builtin PySem.F.slot_str_replace.plain PySem.F.entry_str_replace (PySem.F.slot_str_replace.check _ _ _ _ _ _ _ _ (typeIs_str _ _ _) (PySem.F.args_str_replace_3 _ _ _) ?_))
  show wpAny _ _ (if ((Builtin.Str.occurrences x y 0 x.length (x.length + 1)).isEmpty || (y.length == 0 && z.length == 0)) = true then (do rule "str.replace.nothing"; PySem.ret (.str x t)) else _) _ _ _
  rw [h, Bool.true_or, if_pos rfl]
  exact wpAny_bind (wpAny_rule (wpAny_pure (hq t s.toks)))
theorem pe_replN {X : Cx} {o : Expr} {to : TE} {y z : Str} {j0 j1 : Nat} {c0 c1 apos pos : Pos} (ho : PE X o to) (hst : starEach [.Constant (.str y) j0 c0, .Constant (.str z) j1 c1] X.env = [(false, eval (.Constant (.str y) j0 c0) X.env), (false, eval (.Constant (.str z) j1 c1) X.env)] := by rfl)
    (hbase : attributeBase o "replace" X.env (eval o X.env) = eval o X.env := by rfl) (hline : (apos.endLine == pos.line) = true := by rfl) : PE X (.Call (.Attribute o "replace" apos) [.Constant (.str y) j0 c0, .Constant (.str z) j1 c1] [] pos) (tReplN y z to) := by
  refine ⟨fun pins s σ H Q I h => ?_⟩
  refine PySem.Call_method2 hbase hst hline (thn (ho.run pins s σ H _ I h) fun v s1 ⟨x, H1, I1, r1, a, ex, hb, q⟩ => ?_)
  subst ex
  obtain ⟨tx, rfl⟩ := r1
  refine ⟨"str", _, PySem.F.plainAttrs_str, PySem.F.slot_str_replace, PySem.F.type_str_replace, typeIs_str _ _ _, (fun _ e => nomatch e), Calls.callWith_builtin rfl (Calls.evalArgs_plain (Calls.spliced_cons (Calls.Constant_str (Calls.spliced_cons (Calls.Constant_str (Calls.spliced_nil ?_))))))⟩
  exact replN hb fun t' k => ⟨.str a, H1, I1.tok k, ⟨t', rfl⟩, q⟩
structure Txt_Example (K : PySem.W.Frag) (mg : Str → Option Value) (C : Addr) : Prop where
  cl : Cls K C
  mgC : mg "Example" = some (.ref C)
  ha : PySem.W.findIn K (.ref C) "__class__" = some (some (.builtin "object.__class__"))
  hn : PySem.W.specialIn K (.builtin "object.__class__") "__get__" = some (some (.builtin "getset_descriptor.__get__"))
  ht : PySem.W.takesIn K (.builtin "object.__class__") = some true
  hm : PySem.W.mroIn K C (.type "object") = some true
  ko : PySem.W.kitOne K (.ref C) (.ref C) = some true
  n_source : NoAttr K C "source"
  n_want : NoAttr K C "want"
  n_error : NoAttr K C "error"
  n_line : NoAttr K C "line"
  n_indent : NoAttr K C "indent"
  n_options : NoAttr K C "options"
  n_bare : NoAttr K C "bare"

/-! ### what a test asks is monotone -/
def MonoT (t : TT) : Prop := ∀ (σ : L2.St) (H : Hp) (Q Q' : Bool → Hp → Prop), (∀ (b : Bool) (H1 : Hp), Q b H1 → Q' b H1) → t σ H Q → t σ H Q'
def MonoE (t : TE) : Prop := ∀ (σ : L2.St) (H : Hp) (Q Q' : VK), (∀ (v : V) (H1 : Hp), Q v H1 → Q' v H1) → t σ H Q → t σ H Q'
def MonoA (t : TA) : Prop := ∀ (σ : L2.St) (H : Hp) (Q Q' : List V → Hp → Prop), (∀ (v : List V) (H1 : Hp), Q v H1 → Q' v H1) → t σ H Q → t σ H Q'
theorem mo_test {t : TE} (h : MonoE t) : MonoT (tTest t) := fun σ H Q Q' i q => h σ H _ _ (fun v H1 ⟨c, e, z⟩ => ⟨c, e, i _ _ z⟩) q
theorem mo_B {t : TE} (h : MonoE t) : MonoT (tB t) := fun σ H Q Q' i q => h σ H _ _ (fun v H1 ⟨c, e, z⟩ => ⟨c, e, i _ _ z⟩) q
theorem mo_not {t : TT} (h : MonoT t) : MonoT (tNot t) := fun σ H Q Q' i q => h σ H _ _ (fun b H1 z => i _ _ z) q
theorem mo_and {t u : TT} (h : MonoT t) (k : MonoT u) : MonoT (tAnd t u) := fun σ H Q Q' i q => h σ H _ _ (fun b H1 z => by
  cases b with
  | true => exact k σ H1 _ _ i z
  | false => exact i _ _ z) q
theorem mo_var {i : Nat} : MonoE (tVar i) := fun σ H Q Q' i ⟨v, e, q⟩ => ⟨v, e, i _ _ q⟩
theorem mo_const {v : V} : MonoE (tC v) := fun σ H Q Q' i q => i _ _ q
theorem mo_op {r : R2} {a b : TE} (hr : ∀ x y H (Q Q' : VK), (∀ (v : V) (H1 : Hp), Q v H1 → Q' v H1) → r x y H Q → r x y H Q') (ha : MonoE a) (hb : MonoE b) : MonoE (tOp r a b) := fun σ H Q Q' i q =>
  ha σ H _ _ (fun x H1 z => hb σ H1 _ _ (fun y H2 z => hr _ _ _ _ _ i z) z) q
theorem mo_nil : MonoA tNil := fun σ H Q Q' i q => i _ _ q
theorem mo_cons {e : TE} {t : TA} (he : MonoE e) (ht : MonoA t) : MonoA (tCons e t) := fun σ H Q Q' i q => he σ H _ _ (fun x H1 z => ht σ H1 _ _ (fun xs H2 z => i _ _ z) z) q
theorem mo_cb {r : List V → Hp → VK → Prop} {t : TA} (hr : ∀ xs H (Q Q' : VK), (∀ (v : V) (H1 : Hp), Q v H1 → Q' v H1) → r xs H Q → r xs H Q') (ht : MonoA t) : MonoE (tCB r t) := fun σ H Q Q' i q => ht σ H _ _ (fun xs H1 z => hr _ _ _ _ i z) q
theorem mo_call {sp : Sp} {dvs : List V} {E : XK} {t : TA} (hs : ∀ vs H (Q Q' : VK) E, (∀ (v : V) (H1 : Hp), Q v H1 → Q' v H1) → sp vs H Q E → sp vs H Q' E) (ht : MonoA t) : MonoE (tCall sp dvs E t) := fun σ H Q Q' i q => ht σ H _ _ (fun vs H1 z => hs _ _ _ _ _ i z) q
theorem mo_m1 {r : V → List V → Hp → VK → Prop} {a b : TE} (hr : ∀ x xs H (Q Q' : VK), (∀ (v : V) (H1 : Hp), Q v H1 → Q' v H1) → r x xs H Q → r x xs H Q') (ha : MonoE a) (hb : MonoE b) : MonoE (tM1 r a b) := fun σ H Q Q' i q =>
  ha σ H _ _ (fun x H1 ⟨e, z⟩ => ⟨e, hb σ H1 _ _ (fun y H2 z => hr _ _ _ _ _ i z) z⟩) q
theorem mo_I0 {g : Int → Int → V} : ∀ x y H (Q Q' : VK), (∀ (v : V) (H1 : Hp), Q v H1 → Q' v H1) → rI0 g x y H Q → rI0 g x y H Q' := fun x y H Q Q' i ⟨a, b, e1, e2, q⟩ => ⟨a, b, e1, e2, i _ _ q⟩
theorem mo_ix {K : PySem.W.Frag} : ∀ x y H (Q Q' : VK), (∀ (v : V) (H1 : Hp), Q v H1 → Q' v H1) → rIxL K x y H Q → rIxL K x y H Q' := fun x y H Q Q' i ⟨p, xs, j, z, e1, e2, e3, e4, q⟩ => ⟨p, xs, j, z, e1, e2, e3, e4, i _ _ q⟩

/-! ### levelled -/
theorem nine_spaces {l : List Nat} (h : ∀ c ∈ l, c ≠ 9) : isBlank l = spaces l := by
  unfold isBlank spaces
  induction l with
  | nil => rfl
  | cons c l ih =>
    have h9 : (c == 9) = false := beq_eq_false_iff_ne.mpr (h c (List.mem_cons_self ..))
    rw [List.all_cons, List.all_cons, h9, Bool.or_false, ih fun d m => h d (List.mem_cons_of_mem _ m)]
theorem exp_no9 (n col : Nat) (l : List Nat) : ∀ c ∈ Mun.expT n col l, c ≠ 9 := fun c h => by
  rcases Mun.exp_mem l col c h with rfl | ⟨_, h⟩
  · decide
  · exact h
theorem exp_no (n col : Nat) {l : List Nat} {d : Nat} (hd : d ≠ 32) (hl : d ∉ l) : d ∉ Mun.expT n col l := fun h => by
  rcases Mun.exp_mem l col d h with e | ⟨e, _⟩
  · exact hd e
  · exact hl e
theorem mk_of_tl : ∀ {ss : List Str} {ws : List (List Nat)}, ss.map tl = ws → ss = ws.map mk
  | [], ws, h => by
    rw [← h]
    rfl
  | s :: r, ws, h => by
    rw [← h, List.map_cons, List.map_cons, mk_tl', ← mk_of_tl (ss := r) rfl]
theorem split_join {x : Str} {ws : List (List Nat)} (h : tl x = joinL [10] ws) (hn : ws ≠ []) (h10 : ∀ l ∈ ws, (10 : Nat) ∉ l) : Txt.split x "\n" = ws.map mk := by
  refine mk_of_tl ?_
  rw [nl_eq, splitOf x (y := [10]) (by simp) (by decide), h]
  exact TL.spl_join hn h10
theorem sp_one : (" " : Str) = ⟨#[32]⟩ := ext_tl (by decide +kernel)
theorem len_one {a : Nat} : (⟨#[a]⟩ : Str).length = 1 := rfl
theorem lead_take (ws : List (List Nat)) {i : Nat} {l : List Nat} (h : ws[i]? = some l) : leads (ws.take (i + 1)) = leads (ws.take i) ++ (if spaces l then [] else [lead l]) := by
  unfold leads
  rw [take_filter _ h, List.map_append]
  cases spaces l <;> rfl
def natV (ns : List Nat) : List V := (ns.map fun n : Nat => (n : Int)).map V.int
theorem natV_app (a b : List Nat) : natV (a ++ b) = natV a ++ natV b := by
  unfold natV
  rw [List.map_append, List.map_append]
theorem leads_len (ws : List (List Nat)) : (leads ws).length ≤ ws.length := by
  unfold leads
  rw [List.length_map]
  exact List.length_filter_le ..
theorem join_parts : ∀ ws : List (List Nat), ws.length ≤ (joinL [10] ws).length + 1 ∧ ∀ l ∈ ws, l.length ≤ (joinL [10] ws).length
  | [] => ⟨Nat.zero_le _, fun _ h => (by cases h)⟩
  | [a] => ⟨by show 1 ≤ _; omega, fun l h => by rw [List.mem_singleton.mp h]; exact Nat.le_refl _⟩
  | a :: b :: r => by
    have ih := join_parts (b :: r)
    have e : joinL [10] (a :: b :: r) = a ++ ([10] ++ joinL [10] (b :: r)) := rfl
    have el : (joinL [10] (a :: b :: r)).length = a.length + (1 + (joinL [10] (b :: r)).length) := by rw [e, List.length_append, List.length_append]; rfl
    refine ⟨by rw [el, List.length_cons]; omega, fun l h => ?_⟩
    rcases List.mem_cons.mp h with rfl | h
    · omega
    · have := ih.2 l h
      omega
theorem app_len (x y : Str) : (x ++ y).length = x.length + y.length := by
  rw [len_tl, tl_append, List.length_append, len_tl, len_tl]
theorem nl_sum (m : Nat) (ws : List (List Nat)) (h : ws ≠ []) (hl : ∀ l ∈ ws, l.length ≤ m) : (joinL [10] ws).length + 1 ≤ m * ws.length + ws.length := by
  have a := joinL_len [10] h
  have b := sum_map_le (fun l : List Nat => l.length) (fun _ => m) ws hl
  have c : (ws.map fun _ => m).sum = m * ws.length := by
    clear a b h hl
    induction ws with
    | nil => rfl
    | cons x r ih =>
      rw [List.map_cons, List.sum_cons, ih, List.length_cons, Nat.mul_succ]
      omega
  have e1 : ([10] : List Nat).length = 1 := rfl
  rw [e1] at a
  omega
theorem sp_dec (c : Nat) : decide (V.str ⟨#[c]⟩ = V.str " ") = (c == 32) := by
  rw [sp_one, Bool.eq_iff_iff, decide_eq_true_iff, beq_iff_eq]
  constructor
  · intro h
    exact List.head_eq_of_cons_eq (congrArg (fun v => match v with | V.str y => tl y | _ => []) h)
  · rintro rfl
    rfl
theorem mem_join0 {c : Nat} : ∀ ws : List (List Nat), c ∈ joinL [] ws → ∃ u ∈ ws, c ∈ u
  | [], h => by cases h
  | [a], h => ⟨a, List.mem_cons_self .., h⟩
  | a :: b :: r, h => by
    have e : joinL [] (a :: b :: r) = a ++ ([] ++ joinL [] (b :: r)) := rfl
    rw [e, List.nil_append] at h
    rcases List.mem_append.mp h with h | h
    · exact ⟨a, List.mem_cons_self .., h⟩
    · obtain ⟨u, h1, h2⟩ := mem_join0 (b :: r) h
      exact ⟨u, List.mem_cons_of_mem _ h1, h2⟩
theorem lines_sum {ws : List (List Nat)} (h : ws ≠ []) (m : Nat) : ((ws.map fun l => mk (l.drop m)).map (·.length)).sum + ws.length ≤ (joinL [10] ws).length + 1 := by
  have a := joinL_len [10] h
  have b := sum_map_le (fun l : List Nat => (mk (l.drop m)).length) (fun l => l.length) ws fun l _ => by
    show (mk (l.drop m)).length ≤ l.length
    rw [mk_len, List.length_drop]
    omega
  rw [List.map_map]
  have e : ((fun x : Str => x.length) ∘ fun l : List Nat => mk (l.drop m)) = fun l : List Nat => (mk (l.drop m)).length := rfl
  rw [e]
  have e1 : ([10] : List Nat).length = 1 := rfl
  rw [e1] at a
  omega
theorem join_lev (ws : List (List Nat)) : Txt.join "\n" (ws.map fun l => mk (l.drop (leastN (leads ws)))) = mk (joinL [10] (levW ws)) := by
  have e : (ws.map fun l => mk (l.drop (leastN (leads ws)))) = (levW ws).map mk := by
    unfold levW
    rw [List.map_map]
    rfl
  rw [e]
  exact join_mk [10] _
theorem tab_dec (c : Nat) : decide (V.str ⟨#[c]⟩ = V.str "\t") = decide (c = 9) := by
  rw [tab_eq, Bool.eq_iff_iff, decide_eq_true_iff, decide_eq_true_iff]
  constructor
  · intro h
    exact List.head_eq_of_cons_eq (congrArg (fun v => match v with | V.str y => tl y | _ => []) h)
  · rintro rfl
    rfl
theorem strip_test (x : Str) : decide (V.str (Txt.stripChars x " ") = V.str "") = spaces (tl x) := by
  rw [sp_one, Bool.eq_iff_iff, decide_eq_true_iff, ← spaces_strip]
  constructor
  · intro h
    rw [V.str.inj h]
    decide +kernel
  · intro h
    refine congrArg V.str (ext_tl ?_)
    rw [len_tl] at h
    rw [List.length_eq_zero_iff.mp h]
    decide +kernel

section
variable {P : Program} {w : World} {K : PySem.W.Frag} {mg : Str → Option Value} {base : Heap}
/-! ### the program -/
def sp_is_blank : Sp := fun vs H Q _ => ∃ x : Str, vs = [.str x] ∧ x.length ≤ 1000000 ∧ Q (.bl (isBlank (tl x))) H
theorem ok_is_blank {f : Addr} {fd : FuncData} {dvs : List V} (F : Fn K "is_blank" s_is_blank dvs f fd) {t_BLANKS : Tok} (c_BLANKS : mg "BLANKS" = some (.str " \t" t_BLANKS)) : FnOk P w K mg base CX0 1 f fd ["line"] (sp_is_blank) := by
  refine Fn.okN F sc_is_blank (fun vs H Q E h => ?_) (fun cdv A outer s H vs Q E hr h => ?_)
  · obtain ⟨_, rfl, _⟩ := h
    rfl
  · obtain ⟨x, rfl, hx, k⟩ := h
    refine ⟨_, (pss_one (ps_ret (pe_notT (pe_m1 PySem.F.slot_str_strip PySem.F.type_str_strip mt_stripChars (pv 0) (pe_glob (v := .str " \t") rfl c_BLANKS ⟨_, rfl⟩))))), ?_⟩
    have e : (" \t" : Str) = ⟨#[32, 9]⟩ := ext_tl (by decide +kernel)
    refine ⟨_, rfl, ⟨_, rfl⟩, x, " \t", rfl, rfl, line_of hx, _, ⟨?_, rfl⟩, ?_⟩
    · exact Nat.le_trans (len_stripBy _ _ _ _) (line_of hx)
    · rw [e]
      have hb := blank_strip x
      cases h : isBlank (tl x) with
      | true =>
        rw [h] at k
        rw [show (((Txt.stripChars x ⟨#[32, 9]⟩).length : Int) != 0) = false by rw [hb.mpr h]; rfl]
        exact k
      | false =>
        rw [h] at k
        have hne : (Txt.stripChars x ⟨#[32, 9]⟩).length ≠ 0 := fun z => by
          rw [hb.mp z] at h
          cases h
        rw [show (((Txt.stripChars x ⟨#[32, 9]⟩).length : Int) != 0) = true by
          rw [bne_iff_ne]
          omega]
        exact k
def sp_indent_of : Sp := fun vs H Q _ => ∃ x : Str, vs = [.str x] ∧ x.length ≤ 1000000 ∧ Q (.int (lead (tl x) : Nat)) H
theorem ok_indent_of {f : Addr} {fd : FuncData} {dvs : List V} (F : Fn K "indent_of" s_indent_of dvs f fd) (m_len : mg "len" = none) : FnOk P w K mg base CX0 1 f fd ["line"] (sp_indent_of) := by
  refine Fn.okN F sc_indent_of (fun vs H Q E h => ?_) (fun cdv A outer s H vs Q E hr h => ?_)
  · obtain ⟨_, rfl, _⟩ := h
    rfl
  · obtain ⟨x, rfl, hx, k⟩ := h
    refine ⟨_, (pss_one (ps_ret (pe_op op_sub (pe_callB call_len_str (by rfl) m_len PySem.boot_len (pa_cons (pv 0) pa_nil)) (pe_callB call_len_str (by rfl) m_len PySem.boot_len (pa_cons (pe_m1 PySem.F.slot_str_lstrip PySem.F.type_str_lstrip mt_lstripChars (pv 0) pe_str) pa_nil))))), ?_⟩
    have e := indent_len x
    rw [← sp_one] at e
    rw [← e] at k
    exact ⟨.str x, rfl, x, rfl, line_of hx, .str x, rfl, ⟨_, rfl⟩, x, " ", rfl, rfl, line_of hx, _, rfl, Nat.le_trans (len_stripBy _ _ _ _) (line_of hx), _, _, rfl, rfl, k⟩
def sp_widened : Sp := fun vs H Q _ => ∃ x : Str, vs = [.str x] ∧ (tl x).length ≤ 10000 ∧ Q (.str (SX.S (Mun.expT 8 0 (tl x)))) H
theorem ok_widened {f : Addr} {fd : FuncData} {dvs : List V} (F : Fn K "widened" s_widened dvs f fd) {t_TAB : Tok} (c_TAB : mg "TAB" = some (.int 8 t_TAB)) : FnOk P w K mg base CX0 1 f fd ["text"] (sp_widened) := by
  refine Fn.okN F sc_widened (fun vs H Q E h => ?_) (fun cdv A outer s H vs Q E hr h => ?_)
  · obtain ⟨_, rfl, _⟩ := h
    rfl
  · obtain ⟨x, rfl, hx, k⟩ := h
    refine ⟨_, (pss_one (ps_ret (pe_m1 PySem.F.slot_str_expandtabs PySem.F.type_str_expandtabs mt_expandtabs (pv 0) (pe_glob (v := .int 8) rfl c_TAB ⟨_, rfl⟩)))), ?_⟩
    have lE := (Mun.exp_len (n := 8) (by decide) (tl x) 0).2
    exact ⟨.str x, rfl, ⟨_, rfl⟩, tl x, 8, congrArg V.str (mk_tl' x).symm, rfl, by decide, by decide, by omega, by omega, k⟩
def sp_levelled : Sp := fun vs H Q _ => ∃ (x : Str) (ls : List (List Nat)), vs = [.str x] ∧ tl x = joinL [10] ls ∧ ls ≠ [] ∧ (∀ l ∈ ls, ∀ c ∈ l, c ≠ 10 ∧ c ≠ 13) ∧ (tl x).length ≤ 10000 ∧
  ∀ H', Same H H' → Q (.str (mk (joinL [10] (levW (ls.map (Mun.expT 8 0)))))) H'
theorem ok_levelled {f : Addr} {fd : FuncData} {dvs : List V} (F : Fn K "levelled" s_levelled dvs f fd) (O_widened : Own P w K mg base "widened" 1 ["text"] [] (sp_widened)) (O_is_blank : Own P w K mg base "is_blank" 1 ["line"] [] (sp_is_blank)) (O_indent_of : Own P w K mg base "indent_of" 1 ["line"] [] (sp_indent_of)) (m_min : mg "min" = none) : FnOk P w K mg base CX0 2 f fd ["text"] (sp_levelled) := by
  refine Fn.okN F sc_levelled (fun vs H Q E h => ?_) (fun cdv A outer s H vs Q E hr h => ?_)
  · obtain ⟨_, _, rfl, _⟩ := h
    rfl
  · obtain ⟨x, ls, rfl, ex, hn, hc, hx, k⟩ := h
    refine ⟨_, (pss_cons (ps_set (i := 1) sc_levelled.nd rfl (.inl rfl) (pe_m1 PySem.F.slot_str_split PySem.F.type_str_split mt_split (pe_own O_widened (hr.mono (by decide)) (by rfl) (pa_cons (pv 0) pa_nil)) pe_str))
      (pss_cons (ps_set (i := 2) sc_levelled.nd rfl (.inr rfl) (pe_callBK (cr_minD rfl) (by rfl) m_min (by decide +kernel) (pa_cons (pe_lc (own := [("line", 3)]) (g := gName 3) (by rfl) sc_levelled.nd (pi_list (pv 1)) (blkOk_by (own := [("line", 3)]) (N := ["text", "lines", "least", "line"]) (sc := defScope s_levelled) (by decide +kernel)) (fun _ _ _ _ _ => (pg_name (i := 3) sc_levelled.nd rfl (.inl rfl))) (fun _ _ _ _ _ => (pts_one (pt_not (pt_val (pe_own O_is_blank (hr.mono (by decide)) (by rfl) (pa_cons (pv 3) pa_nil)))))) (fun _ _ _ _ _ => (pe_own O_indent_of (hr.mono (by decide)) (by rfl) (pa_cons (pv 3) pa_nil)))) pa_nil) (pk_cons pe_int pk_nil)))
      (pss_one (ps_ret (pe_m1 PySem.F.slot_str_join PySem.F.type_str_join mt_join pe_str (pe_lc (own := [("line", 3)]) (g := gName 3) (tt := tYes) (by rfl) sc_levelled.nd (pi_list (pv 1)) (blkOk_by (own := [("line", 3)]) (N := ["text", "lines", "least", "line"]) (sc := defScope s_levelled) (by decide +kernel)) (fun _ _ _ _ _ => (pg_name (i := 3) sc_levelled.nd rfl (.inl rfl))) (fun _ _ _ _ _ => pts_nil) (fun _ _ _ _ _ => (pe_slice sl_str (pv 3) (po_some (pv 2)) po_none)))))))), ?_⟩
    have eE : tl (SX.S (Mun.expT 8 0 (tl x))) = joinL [10] (ls.map (Mun.expT 8 0)) := by
      rw [← exp_join ls hc, ← ex]
    have lE := (Mun.exp_len (n := 8) (by decide) (tl x) 0).2
    have hW : ls.map (Mun.expT 8 0) ≠ [] := fun z => hn (List.map_eq_nil_iff.mp z)
    have h10 : ∀ l ∈ ls.map (Mun.expT 8 0), (10 : Nat) ∉ l := fun l hl => by
      obtain ⟨l', h', rfl⟩ := List.mem_map.mp hl
      exact exp_no 8 0 (by decide) fun z => (hc l' h' 10 z).1 rfl
    have h9 : ∀ l ∈ ls.map (Mun.expT 8 0), ∀ c ∈ l, c ≠ 9 := fun l hl => by
      obtain ⟨l', h', rfl⟩ := List.mem_map.mp hl
      exact exp_no9 8 0 l'
    have eS := split_join eE hW h10
    have pj := join_parts (ls.map (Mun.expT 8 0))
    rw [← eE] at pj
    have lE2 : (tl (SX.S (Mun.expT 8 0 (tl x)))).length ≤ 80000 := by
      show (Mun.expT 8 0 (tl x)).length ≤ 80000
      omega
    generalize ls.map (Mun.expT 8 0) = W at *
    refine ⟨.str x, rfl, x, rfl, hx, ⟨_, rfl⟩, _, "\n", rfl, rfl, by decide +kernel, ?_, fun p np => ?_⟩
    · rw [len_tl]
      exact line_of (by omega)
    rw [eS]
    have sp := same_new (o := .lst ((W.map mk).map V.str)) np
    refine ⟨.ref p, rfl, p, rfl, ⟨_, SqL.of upd_same⟩, fun L nL => lc_list (K := K) (a := p) (xs := (W.map mk).map V.str) (fun i H2 => H2 L = some (.lst (natV (leads (W.take i)))) ∧ Same (upd H p (.lst ((W.map mk).map V.str))) H2) ⟨upd_same, same_new nL⟩ (fun i H2 _ h2 => SqL.of (h2.2 _ _ upd_same)) ?_ ?_⟩
    · rintro i y H2 hi ⟨eL, s2⟩
      obtain ⟨z, rfl, hz⟩ := str_at hi
      rw [List.getElem?_map] at hz
      obtain ⟨l, hl, rfl⟩ := Option.map_eq_some_iff.mp hz
      have hm := List.mem_of_getElem? hl
      have ll := pj.2 l hm
      have lw : W.length ≤ 80001 := by omega
      have hi2 : i < W.length := (List.getElem?_eq_some_iff.mp hl).1
      have lm : (mk l).length ≤ 1000000 := by rw [mk_len]; omega
      refine ⟨rfl, .str (mk l), rfl, mk l, rfl, lm, _, rfl, ?_⟩
      rw [lead_take W hl, show isBlank (tl (mk l)) = spaces l from nine_spaces (h9 l hm)]
      show (if (!spaces l) = true then _ else _)
      cases spaces l with
      | true =>
        refine iteF ⟨?_, s2⟩
        show H2 L = some (.lst (natV (leads (W.take i) ++ [])))
        rw [List.append_nil]
        exact eL
      | false =>
        have l3 := leads_len (W.take i)
        rw [List.length_take] at l3
        refine iteT ⟨.str (mk l), rfl, mk l, rfl, lm, _, eL, ?_, ?_, fun b o e => ?_⟩
        · unfold natV
          rw [List.length_map, List.length_map]
          exact Nat.lt_of_le_of_lt (show (leads (W.take i)).length ≤ 80001 by omega) (by decide)
        · rw [upd_same]
          show some (HO.lst (natV (leads (W.take i)) ++ [.int (lead l : Nat)])) = some (.lst (natV (leads (W.take i) ++ [lead l])))
          rw [natV_app]
          rfl
        · rw [upd_ne (ne_of_none e nL)]
          exact s2 b o e
    · rintro H2 ⟨eL, s2⟩
      rw [List.length_map, List.length_map, List.take_length] at eL
      refine ⟨L, (leads W).map (fun n : Nat => (n : Int)), 0, rfl, rfl, SqL.of eL, fun m hm => ?_⟩
      have em : m = (leastN (leads W) : Nat) := by
        rcases hm with ⟨e, rfl⟩ | ⟨h1, h2⟩
        · rw [List.map_eq_nil_iff.mp e]
          rfl
        · exact leastN_int h1 h2
      subst em
      generalize em : leastN (leads W) = m
      refine ⟨⟨_, rfl⟩, .ref p, rfl, p, rfl, ⟨_, SqL.of (s2 _ _ upd_same)⟩, fun M nM => lc_list (K := K) (a := p) (xs := (W.map mk).map V.str) (fun i H3 => H3 M = some (.lst (((W.take i).map fun l => mk (l.drop m)).map V.str)) ∧ Same H2 H3) ⟨upd_same, same_new nM⟩ (fun i H3 _ h3 => SqL.of (h3.2 _ _ (s2 _ _ upd_same))) ?_ ?_⟩
      · rintro i y H3 hi ⟨eM, s3⟩
        obtain ⟨z, rfl, hz⟩ := str_at hi
        rw [List.getElem?_map] at hz
        obtain ⟨l, hl, rfl⟩ := Option.map_eq_some_iff.mp hz
        have ll := pj.2 l (List.mem_of_getElem? hl)
        have lm : (mk l).length ≤ 1000000 := by rw [mk_len]; omega
        have hi2 : i < W.length := (List.getElem?_eq_some_iff.mp hl).1
        refine ⟨rfl, ?_⟩
        unfold tYes
        show ite (true = true) _ _
        rw [if_pos rfl]
        refine ⟨.str (mk l), rfl, .int (m : Nat), rfl, m, rfl, mk l, rfl, line_of lm, _, eM, ?_, ?_, fun b o e => ?_⟩
        · rw [List.length_map, List.length_map, List.length_take]
          exact Nat.lt_of_le_of_lt (show min i W.length ≤ 80001 by omega) (by decide)
        · rw [upd_same, List.take_add_one, hl, List.map_append, List.map_append]
          refine congrArg (fun v => some (HO.lst (((W.take i).map fun l => mk (l.drop m)).map V.str ++ [v]))) (congrArg V.str (ext_tl ?_))
          rw [cutS_from]
          rfl
        · rw [upd_ne (ne_of_none e nM)]
          exact s3 b o e
      · rintro H3 ⟨eM, s3⟩
        rw [List.length_map, List.length_map, List.take_length] at eM
        have sl := lines_sum hW m
        rw [← eE] at sl
        refine ⟨"\n", M, _, rfl, rfl, .inl (SqL.of eM), ?_, ?_⟩
        · rw [List.length_map]
          have e1 : ("\n" : Str).length = 1 := rfl
          rw [e1, Nat.mul_one]
          exact Nat.le_trans sl (by omega)
        · rw [← em, join_lev]
          exact k _ (sp.trans (s2.trans s3))
end

/-! ### lines, kept and bare -/
theorem kit_self (K : PySem.W.Frag) (C : Addr) : PySem.W.kitOne K (.ref C) (.ref C) = some true := by
  unfold PySem.W.kitOne
  exact if_pos (by first | exact beq_self_eq_true _ | (show (C == C) = true; exact beq_self_eq_true C))
theorem bnd_items {K : PySem.W.Frag} {s : Shared} {fd : FuncData} {args : Args} {binds : List (Str × Value)} {T : Addr} {o : Obj} {its : Array Value} {n : Nat} (X : K.In s.heap) (lT : K.lookup T = some o) (oT : o.data = .seq its n) (h : ∃ k, bindArgs fd args = seqItems? (.ref T) >>= k ∧ k (some its) = pure binds) : BindsTo s fd args binds := L2.BindsTo.of_looks fun M => by
  obtain ⟨k, e1, e2⟩ := h
  rw [e1]
  exact looks_items X lT oT (PySem.W.Looks.of_pure e2)
def rowsV (ws : List (List Nat)) : HO := .lst ((ws.map mk).map V.str)
def ifAny (last : List Nat) : List (List Nat) := if last.isEmpty = true then [] else [last]
def keptOf (init : List (List Nat)) (last : List Nat) : List (List Nat) := init.map (· ++ [10]) ++ ifAny last
def rowsOf (init : List (List Nat)) (last : List Nat) : List (List Nat) := init ++ ifAny last
def bg (x y : Str) : Bool := Txt.startswith (Txt.lstripChars x " ") y
def X0 : List Nat := [62, 62, 62, 32, 120]
def wordS : List Nat → Bool
  | [] => false
  | c :: _ => c == 95 || Txt.isalnum ⟨#[c]⟩
def isHead (h : List Nat) : Bool := inV (.str (Txt.rstripChars (mk h) " ")) (v_HEADERS.map V.str)
def noNl (l : List Nat) : List Nat := tl (Txt.removesuffix (mk l) "\n")
def flatO : List (List Nat) → Option (List Nat)
  | [] => none
  | d => some (joinL [] d)
def errP : List (List Nat) → Option (List Nat)
  | [] => none
  | h :: r => if isHead (noNl h) = true then flatO (r.dropWhile fun l => !wordS l) else none
def errL : List (List Nat) → Option (List Nat)
  | [] => none
  | h :: r => if isHead h = true then flatO ((r.dropWhile fun l => !wordS l).map (· ++ [10])) else none
def optV : Option (List Nat) → V
  | none => .non
  | some l => .str (mk l)
theorem ten_eq : ("\n" : Str) = ⟨#[10]⟩ := ext_tl (by decide +kernel)
theorem noNl_fed (l : List Nat) : noNl (l ++ [10]) = l := by
  have k := (StrLaws.subAt_one (mk (l ++ [10])) 10 l.length).mpr (by
    show (l ++ [10])[l.length]? = some 10
    rw [List.getElem?_append_right (Nat.le_refl _), Nat.sub_self]
    rfl)
  have hl : (mk (l ++ [10])).length = l.length + 1 := by rw [mk_len, List.length_append]; rfl
  have l1 : (⟨#[10]⟩ : Str).length = 1 := rfl
  unfold noNl Txt.removesuffix
  rw [ten_eq, hl, l1, Nat.add_sub_cancel, k.2, Bool.and_true, decide_eq_true (by omega), if_pos rfl]
  unfold Txt.affix
  dsimp only
  rw [hl, Nat.sub_zero, show (l.length == l.length + 1) = false by rw [beq_eq_false_iff_ne]; omega, if_neg Bool.false_ne_true]
  rw [tl_strSub, List.drop_zero, Nat.sub_zero]
  show (l ++ [10]).take l.length = l
  rw [List.take_left]
theorem find3_none {x : Str} (h : (35 : Nat) ∉ tl x) (i : Int) : Txt.find3 x "#" i = -1 := by
  have e : ("#" : Str) = ⟨#[35]⟩ := ext_tl (by decide +kernel)
  unfold Txt.find3
  rcases StrLaws.occ_head_from x "#" (fromIndex x.length i) 1 (Nat.le_refl _) with ⟨h0, _⟩ | ⟨j, r, h0, _, hj, _⟩
  · rw [h0]
  · rw [e] at hj
    exact absurd (List.mem_of_getElem? (show (tl x)[j]? = some 35 from (StrLaws.subAt_one x 35 j).mp hj)) h
theorem kept_ne (init : List (List Nat)) (last : List Nat) : ∀ l ∈ keptOf init last, l ≠ [] := fun l hl => by
  rcases List.mem_append.mp hl with h | h
  · obtain ⟨l', _, rfl⟩ := List.mem_map.mp h
    simp
  · unfold ifAny at h
    cases last with
    | nil => cases h
    | cons c r =>
      rw [List.mem_singleton.mp h]
      simp
theorem sum_fed : ∀ ls : List (List Nat), ((ls.map (· ++ [10])).map (·.length)).sum = (ls.map (·.length)).sum + ls.length
  | [] => rfl
  | l :: r => by
    have ih := sum_fed r
    rw [List.map_cons, List.map_cons, List.map_cons, List.sum_cons, List.sum_cons, ih, List.length_append, List.length_cons (a := l) (as := r)]
    show l.length + 1 + _ = _
    omega
theorem kept_sum (init : List (List Nat)) (last : List Nat) : ((keptOf init last).map (·.length)).sum ≤ (joinL [10] (init ++ [last])).length := by
  have a := joinL_len [10] (ps := init ++ [last]) (by simp)
  have e1 : ([10] : List Nat).length = 1 := rfl
  rw [e1, List.map_append, List.sum_append, List.length_append] at a
  have c : ([last].map (·.length)).sum = last.length := by
    show last.length + 0 = _
    omega
  rw [c] at a
  have e2 : [last].length = 1 := rfl
  rw [e2] at a
  unfold keptOf ifAny
  rw [List.map_append, List.sum_append, sum_fed]
  split
  · show _ + 0 ≤ _
    omega
  · rw [c]
    omega
theorem drop_sum : ∀ (ws : List (List Nat)) (k : Nat), ((ws.drop k).map (·.length)).sum ≤ (ws.map (·.length)).sum
  | [], k => by
    rw [List.drop_nil]
    exact Nat.le_refl _
  | w :: r, 0 => Nat.le_refl _
  | w :: r, k + 1 => by
    have ih := drop_sum r k
    rw [List.drop_succ_cons, List.map_cons, List.sum_cons]
    omega
theorem cutV_drop (xs : List V) (k : Nat) (h : k ≤ xs.length) : cutV xs (some (k : Int)) none = xs.drop k := by
  unfold cutV
  rw [HT.sIx_nat, HT.sIx_none, Nat.min_eq_left h]
  exact List.take_of_length_le (by rw [List.length_drop]; omega)
theorem dropWhile_at {p : List Nat → Bool} : ∀ {r : List (List Nat)} {i : Nat} {l : List Nat}, r[i]? = some l → p l = false → (∀ j l', j < i → r[j]? = some l' → p l' = true) → r.dropWhile p = r.drop i
  | [], i, l, h, _, _ => by cases h
  | a :: r, 0, l, h, hp, _ => by
    cases h
    rw [List.dropWhile_cons, hp]
    rfl
  | a :: r, i + 1, l, h, hp, ha => by
    rw [List.dropWhile_cons, ha 0 a (Nat.zero_lt_succ _) rfl]
    show r.dropWhile p = r.drop i
    exact dropWhile_at h hp fun j l' hj hl => ha (j + 1) l' (Nat.succ_lt_succ hj) hl
theorem dropWhile_none {p : List Nat → Bool} : ∀ {r : List (List Nat)}, (∀ l ∈ r, p l = true) → r.dropWhile p = []
  | [], _ => rfl
  | a :: r, h => by
    rw [List.dropWhile_cons, h a (List.mem_cons_self ..)]
    exact dropWhile_none fun l hl => h l (List.mem_cons_of_mem _ hl)
theorem us_dec (c : Nat) : decide (V.str ⟨#[c]⟩ = V.str "_") = (c == 95) := by
  have e : ("_" : Str) = ⟨#[95]⟩ := ext_tl (by decide +kernel)
  rw [e, Bool.eq_iff_iff, decide_eq_true_iff, beq_iff_eq]
  constructor
  · intro h
    exact List.head_eq_of_cons_eq (congrArg (fun v => match v with | V.str y => tl y | _ => []) h)
  · rintro rfl
    rfl
theorem noNl_free {l : List Nat} (h : (10 : Nat) ∉ l) : noNl l = l := by
  have l1 : (⟨#[10]⟩ : Str).length = 1 := rfl
  unfold noNl Txt.removesuffix
  rw [ten_eq, l1]
  cases hb : (decide (1 ≤ (mk l).length) && Builtin.Str.subAt (mk l) ⟨#[10]⟩ ((mk l).length - 1)) with
  | false =>
    rw [if_neg Bool.false_ne_true]
    rfl
  | true =>
    rw [Bool.and_eq_true, decide_eq_true_eq] at hb
    have k := (StrLaws.subAt_one (mk l) 10 ((mk l).length - 1)).mp ⟨by rw [l1]; omega, hb.2⟩
    exact absurd (List.mem_of_getElem? (show l[_]? = some 10 from k)) h
theorem starts_empty (x : Str) : Txt.startswith x "" = true := by
  have e : ("" : Str) = ⟨#[]⟩ := ext_tl (by decide +kernel)
  unfold Txt.startswith
  rw [e, Nat.zero_add, StrLaws.subAt_eq, List.drop_zero]
  show (decide (0 ≤ x.length) && ((tl x).take 0 == [])) = true
  rw [decide_eq_true (Nat.zero_le _), List.take_zero]
  rfl
theorem ends_ten (l : List Nat) : Txt.endswith (mk (l ++ [10])) "\n" = true := by
  have k := (StrLaws.subAt_one (mk (l ++ [10])) 10 l.length).mpr (by
    show (l ++ [10])[l.length]? = some 10
    rw [List.getElem?_append_right (Nat.le_refl _), Nat.sub_self]
    rfl)
  have hl : (mk (l ++ [10])).length = l.length + 1 := by rw [mk_len, List.length_append]; rfl
  have l1 : (⟨#[10]⟩ : Str).length = 1 := rfl
  unfold Txt.endswith
  rw [ten_eq, hl, l1, Nat.add_sub_cancel, k.2, Bool.and_true, decide_eq_true (by omega)]
theorem joinL_more (S a : List Nat) {ps : List (List Nat)} (h : ps ≠ []) : joinL S (a :: ps) = a ++ (S ++ joinL S ps) := by
  cases ps with
  | nil => exact absurd rfl h
  | cons b r => rfl
theorem joinL_flat (a : List Nat) (r : List (List Nat)) : joinL [] (a :: r) = a ++ joinL [] r := by
  cases r with
  | nil =>
    show a = a ++ []
    rw [List.append_nil]
  | cons b r => rfl
theorem join_ten : ∀ ls : List (List Nat), joinL [10] (ls ++ [[]]) = joinL [] (ls.map (· ++ [10]))
  | [] => rfl
  | a :: r => by
    rw [List.cons_append, joinL_more _ _ (by simp), join_ten r, List.map_cons, joinL_flat, List.append_assoc]
theorem flat_ten : ∀ ls : List (List Nat), ls ≠ [] → ∃ m, joinL [] (ls.map (· ++ [10])) = m ++ [10]
  | [], h => absurd rfl h
  | [a], _ => ⟨a, rfl⟩
  | a :: b :: r, _ => by
    obtain ⟨m, e⟩ := flat_ten (b :: r) (by simp)
    rw [List.map_cons, joinL_flat, e]
    exact ⟨(a ++ [10]) ++ m, (List.append_assoc ..).symm⟩
theorem flat_len (ls : List (List Nat)) : (joinL [] (ls.map (· ++ [10]))).length = (ls.map (·.length)).sum + ls.length := by
  rw [← sum_fed]
  generalize ls.map (· ++ [10]) = k
  induction k with
  | nil => rfl
  | cons a r ih => rw [joinL_flat, List.length_append, ih, List.map_cons, List.sum_cons]
theorem err_ten (ls : List (List Nat)) : optV (errP (ls.map (· ++ [10]))) = .non ∨ ∃ e : Str, optV (errP (ls.map (· ++ [10]))) = .str e ∧ Txt.endswith e "\n" = true := by
  cases ls with
  | nil => exact .inl rfl
  | cons h r =>
    unfold errP
    rw [List.map_cons]
    dsimp only
    split
    · rw [List.dropWhile_map]
      generalize r.dropWhile _ = z
      cases z with
      | nil => exact .inl rfl
      | cons a b =>
        obtain ⟨m, e⟩ := flat_ten (a :: b) (by simp)
        refine .inr ⟨mk (joinL [] ((a :: b).map (· ++ [10]))), rfl, ?_⟩
        rw [e]
        exact ends_ten m
    · exact .inl rfl
theorem cutV_seg (xs : List V) (a b : Nat) (h1 : a ≤ b) (h2 : b ≤ xs.length) : cutV xs (some (a : Int)) (some (b : Int)) = (xs.drop a).take (b - a) := by
  unfold cutV
  rw [HT.sIx_nat, HT.sIx_nat, Nat.min_eq_left h2, Nat.min_eq_left (Nat.le_trans h1 h2)]
theorem le_sum {l : List Nat} : ∀ {ls : List (List Nat)}, l ∈ ls → l.length ≤ (ls.map (·.length)).sum
  | a :: r, h => by
    rw [List.map_cons, List.sum_cons]
    rcases List.mem_cons.mp h with rfl | h
    · omega
    · have := le_sum h
      omega
theorem rsuf_len (x y : Str) : (Txt.removesuffix x y).length ≤ x.length := by
  unfold Txt.removesuffix
  split
  · unfold Txt.affix
    dsimp only
    split
    · exact Nat.le_refl _
    · rw [len_tl, len_tl, tl_strSub, List.length_take, List.length_drop]
      omega
  · exact Nat.le_refl _
theorem ite_er {k : Bool} {er : V} {σ : L2.St} {H : Hp} {Q : VK} {u : TE} (c : Q er H) (ha : k = true → er = .non) (b : k = false → ∀ e : Str, er = .str e → Txt.endswith e "\n" = true → Q (.str e) H → u σ H Q) (hb : k = false → ∃ e : Str, er = .str e ∧ Txt.endswith e "\n" = true) : if k = true then tC .non σ H Q else u σ H Q := by
  cases k with
  | true =>
    rw [ha rfl] at c
    exact iteT c
  | false =>
    obtain ⟨e, e1, e2⟩ := hb rfl
    refine iteF (b rfl e e1 e2 ?_)
    rw [← e1]
    exact c
theorem ite_same {k : Bool} {A B C : Prop} (c : C) (a : k = true → C → A) (b : k = false → C → B) : if k = true then A else B := by
  cases k with
  | true => exact iteT (a rfl c)
  | false => exact iteF (b rfl c)
def Out (x : Addr) (H H' : Hp) : Prop := ∀ b o, H b = some o → b ≠ x → H' b = some o
theorem Out.same {x : Addr} {H H1 H2 : Hp} (a : Out x H H1) (s : Same H1 H2) : Out x H H2 := fun b o e n => s _ _ (a b o e n)
theorem Out.put {x : Addr} {o' : HO} {H H1 : Hp} (a : Out x H H1) : Out x H (upd H1 x o') := fun b o e n => by
  rw [upd_ne n]
  exact a b o e n
theorem put_len {f : Str} {v : V} {fs : List (Str × V)} {n : Nat} (h : fs.length ≤ n) : (putF f v fs).length ≤ n + 1 := Nat.le_trans (length_putF f v fs) (Nat.succ_le_succ h)
section
variable {P : Program} {w : World} {K : PySem.W.Frag} {mg : Str → Option Value} {base : Heap}
def Rows10 (ls : List (List Nat)) : Prop := ∀ l ∈ ls, (10 : Nat) ∉ l
def sp_kept_lines : Sp := fun vs H Q _ => ∃ (x : Str) (init : List (List Nat)) (last : List Nat), vs = [.str x] ∧ tl x = joinL [10] (init ++ [last]) ∧ Rows10 (init ++ [last]) ∧ x.length ≤ 10000 ∧
  ∀ (H' : Hp) (p : Addr), Same H H' → H p = none → H' p = some (rowsV (keptOf init last)) → Q (.ref p) H'
theorem ok_kept_lines {f : Addr} {fd : FuncData} {dvs : List V} (F : Fn K "kept_lines" s_kept_lines dvs f fd) : FnOk P w K mg base CX0 1 f fd ["text"] (sp_kept_lines) := by
  refine Fn.okN F sc_kept_lines (fun vs H Q E h => ?_) (fun cdv A outer s H vs Q E hr h => ?_)
  · obtain ⟨_, _, _, rfl, _⟩ := h
    rfl
  · obtain ⟨x, init, last, rfl, ex, h10, hx, k⟩ := h
    refine ⟨_, (pss_cons (ps_asg (pe_m1 PySem.F.slot_str_split PySem.F.type_str_split mt_split (pv 0) pe_str) (pg_star rfl (pgs_cons (pg_name (i := 1) sc_kept_lines.nd rfl (.inl rfl)) (pgs_cons (pg_name (i := 2) sc_kept_lines.nd rfl (.inl rfl)) pgs_nil))))
      (pss_cons (ps_setLc (i := 3) (own := [("line", 4)]) (g := gName 4) (tt := tYes) (by rfl) sc_kept_lines.nd rfl rfl (sw_true rfl rfl rfl (by decide +kernel)) (pi_list (pv 1)) (blkOk_by (own := [("line", 4)]) (N := ["text", "lines", "rest", "kept", "line"]) (sc := defScope s_kept_lines) (by decide +kernel)) (fun _ _ _ _ _ => (pg_name (i := 4) sc_kept_lines.nd rfl (.inl rfl))) (fun _ _ _ _ _ => pts_nil) (fun _ _ _ _ _ => (pe_op op_add_str (pv 4) pe_str)))
      (pss_one (ps_ret (pe_ifExp (pt_tr (K' := K) (pv 2)) (pe_op op_cat (pv 3) (pe_lst (pa_cons (pv 2) pa_nil))) (pv 3)))))), ?_⟩
    have lt : (tl x).length ≤ 10000 := by rw [← len_tl]; exact hx
    have jp := join_parts (init ++ [last])
    rw [← ex, List.length_append] at jp
    have l1 : ("\n" : Str).length = 1 := rfl
    have hil : ∀ l ∈ init, l.length ≤ 10000 := fun l hl => Nat.le_trans (jp.2 l (List.mem_append_left _ hl)) lt
    have hin : init.length ≤ 10001 := by omega
    refine ⟨.str x, rfl, ⟨_, rfl⟩, x, "\n", rfl, rfl, by decide +kernel, line_of (by omega), fun p np => ?_⟩
    rw [split_join ex (by simp) h10]
    have sp := same_new (o := .lst (((init ++ [last]).map mk).map V.str)) np
    refine ⟨p, (init.map mk).map V.str, .str (mk last), rfl, SqL.of ?_, by rw [List.length_map, List.length_map]; omega, fun D nD => ⟨.ref D, _, rfl, .str (mk last), _, rfl, rfl, ?_⟩⟩
    · rw [upd_same, List.map_append, List.map_append]
      rfl
    have sD := same_new (o := .lst ((init.map mk).map V.str)) nD
    have eD : (upd (upd H p (.lst (((init ++ [last]).map mk).map V.str))) D (.lst ((init.map mk).map V.str))) D = some (.lst ((init.map mk).map V.str)) := upd_same
    generalize upd (upd H p (.lst (((init ++ [last]).map mk).map V.str))) D (.lst ((init.map mk).map V.str)) = H1 at sD eD ⊢
    have s1 : Same H H1 := sp.trans sD
    refine ⟨.ref D, rfl, D, rfl, ⟨_, SqL.of eD⟩, fun L nL => lc_list (K := K) (a := D) (xs := (init.map mk).map V.str) (fun i H2 => H2 L = some (rowsV ((init.take i).map (· ++ [10]))) ∧ Same H1 H2) ⟨upd_same, same_new nL⟩ (fun i H2 _ h => SqL.of (h.2 _ _ eD)) ?_ ?_⟩
    · rintro i v H2 hv ⟨eL, s2⟩
      obtain ⟨z, rfl, hz⟩ := str_at hv
      rw [List.getElem?_map] at hz
      obtain ⟨l, hl, rfl⟩ := Option.map_eq_some_iff.mp hz
      have gl := hil l (List.mem_of_getElem? hl)
      have hi : i < init.length := (List.getElem?_eq_some_iff.mp hl).1
      refine ⟨rfl, ?_⟩
      unfold tYes
      show ite (true = true) _ _
      rw [if_pos rfl]
      refine ⟨.str (mk l), rfl, _, _, rfl, rfl, line_of (by rw [mk_len, l1]; omega), _, eL, ?_, ?_, fun b o e => ?_⟩
      · rw [List.length_map, List.length_map, List.length_map, List.length_take]
        exact Nat.lt_of_le_of_lt (show min i init.length ≤ 10001 by omega) (by decide)
      · rw [upd_same, List.take_add_one, hl, List.map_append]
        unfold rowsV
        rw [List.map_append, List.map_append]
        exact congrArg (fun v => some (HO.lst ((((init.take i).map (· ++ [10])).map mk).map V.str ++ [v]))) (congrArg V.str (ext_tl (by rw [tl_append]; rfl)))
      · rw [upd_ne (ne_of_none e nL)]
        exact s2 b o e
    rintro H2 ⟨eL, s2⟩
    rw [List.length_map, List.length_map, List.take_length] at eL
    have nL0 : H L = none := s1.free nL
    refine ⟨.str (mk last), rfl, _, ⟨line_of (show (mk last).length ≤ 1000000 by rw [mk_len]; exact Nat.le_trans (jp.2 last (List.mem_append_right _ (List.mem_singleton.mpr rfl))) (by omega)), rfl⟩, ?_⟩
    unfold keptOf ifAny at k
    cases last with
    | nil =>
      refine iteF ⟨.ref L, rfl, k _ L (s1.trans s2) nL0 ?_⟩
      show H2 L = some (rowsV (init.map (· ++ [10]) ++ []))
      rw [List.append_nil]
      exact eL
    | cons c r =>
      rw [show (((mk (c :: r)).length : Int) != 0) = true by rw [mk_len, bne_iff_ne, List.length_cons]; omega]
      refine iteT ⟨.ref L, rfl, .str (mk (c :: r)), rfl, by show 1 ≤ sizeLine; decide, fun M nM => ⟨L, M, _, _, rfl, rfl, same_new nM _ _ eL, upd_same, ?_, fun q nq => ?_⟩⟩
      · rw [List.length_map, List.length_map, List.length_map]
        exact Nat.le_trans (show init.length + 1 ≤ 10002 by omega) (by decide)
      · refine k _ q (s1.trans (s2.trans ((same_new nM).trans (same_new nq)))) ((s1.trans (s2.trans (same_new nM))).free nq) ?_
        rw [upd_same]
        unfold rowsV
        rw [List.map_append, List.map_append]
        rfl
def sp_lines_of : Sp := fun vs H Q _ => ∃ (x : Str) (init : List (List Nat)) (last : List Nat), vs = [.str x] ∧ tl x = joinL [10] (init ++ [last]) ∧ Rows10 (init ++ [last]) ∧ x.length ≤ 10000 ∧
  ∀ (H' : Hp) (p : Addr), Same H H' → H p = none → H' p = some (rowsV (rowsOf init last)) → Q (.ref p) H'
theorem ok_lines_of {f : Addr} {fd : FuncData} {dvs : List V} (F : Fn K "lines_of" s_lines_of dvs f fd) (O_kept_lines : Own P w K mg base "kept_lines" 1 ["text"] [] (sp_kept_lines)) : FnOk P w K mg base CX0 2 f fd ["text"] (sp_lines_of) := by
  refine Fn.okN F sc_lines_of (fun vs H Q E h => ?_) (fun cdv A outer s H vs Q E hr h => ?_)
  · obtain ⟨_, _, _, rfl, _⟩ := h
    rfl
  · obtain ⟨x, init, last, rfl, ex, h10, hx, k⟩ := h
    refine ⟨_, (pss_one (ps_ret (pe_lc (own := [("line", 1)]) (g := gName 1) (tt := tYes) (by rfl) sc_lines_of.nd (pi_list (pe_own O_kept_lines (hr.mono (by decide)) (by rfl) (pa_cons (pv 0) pa_nil))) (blkOk_by (own := [("line", 1)]) (N := ["text", "line"]) (sc := defScope s_lines_of) (by decide +kernel)) (fun _ _ _ _ _ => (pg_name (i := 1) sc_lines_of.nd rfl (.inl rfl))) (fun _ _ _ _ _ => pts_nil) (fun _ _ _ _ _ => (pe_m1 PySem.F.slot_str_removesuffix PySem.F.type_str_removesuffix mt_removesuffix (pv 1) pe_str))))), ?_⟩
    have lt : (tl x).length ≤ 10000 := by rw [← len_tl]; exact hx
    have jp := join_parts (init ++ [last])
    rw [← ex, List.length_append] at jp
    have kb : ∀ l ∈ keptOf init last, l.length ≤ 10001 := fun l hl => by
      rcases List.mem_append.mp hl with h | h
      · obtain ⟨l', h', rfl⟩ := List.mem_map.mp h
        have := jp.2 l' (List.mem_append_left _ h')
        rw [List.length_append]
        show _ + 1 ≤ _
        omega
      · have : l = last := by
          unfold ifAny at h
          split at h
          · cases h
          · exact List.mem_singleton.mp h
        have := jp.2 last (List.mem_append_right _ (List.mem_singleton.mpr rfl))
        rw [‹l = last›]
        omega
    have kn : (keptOf init last).length ≤ 10002 := by
      unfold keptOf ifAny
      rw [List.length_append, List.length_map]
      split
      · show _ + 0 ≤ _
        omega
      · show _ + 1 ≤ _
        omega
    have kr : (keptOf init last).map noNl = rowsOf init last := by
      unfold keptOf rowsOf
      rw [List.map_append, List.map_map]
      congr 1
      · refine (List.map_congr_left fun l hl => ?_).trans (List.map_id _)
        exact noNl_fed l
      · unfold ifAny
        split
        · rfl
        · show [noNl last] = [last]
          rw [noNl_free (h10 last (List.mem_append_right _ (List.mem_singleton.mpr rfl)))]
    refine ⟨.str x, rfl, x, init, last, rfl, ex, h10, hx, fun H1 p s1 np ep => ⟨p, rfl, ⟨_, SqL.of ep⟩, fun L nL => ?_⟩⟩
    rw [← kr] at k
    generalize keptOf init last = ks at ep kb kn k
    refine lc_list (K := K) (a := p) (xs := (ks.map mk).map V.str) (fun i H2 => H2 L = some (rowsV ((ks.take i).map noNl)) ∧ Same H1 H2) ⟨upd_same, same_new nL⟩ (fun i H2 _ h => SqL.of (h.2 _ _ ep)) ?_ ?_
    · rintro i v H2 hv ⟨eL, s2⟩
      obtain ⟨z, rfl, hz⟩ := str_at hv
      rw [List.getElem?_map] at hz
      obtain ⟨l, hl, rfl⟩ := Option.map_eq_some_iff.mp hz
      have gl := kb l (List.mem_of_getElem? hl)
      have hi : i < ks.length := (List.getElem?_eq_some_iff.mp hl).1
      refine ⟨rfl, ?_⟩
      unfold tYes
      show ite (true = true) _ _
      rw [if_pos rfl]
      refine ⟨.str (mk l), rfl, ⟨_, rfl⟩, mk l, "\n", rfl, rfl, by rw [mk_len]; exact line_of (by omega), _, eL, ?_, ?_, fun b o e => ?_⟩
      · rw [List.length_map, List.length_map, List.length_map, List.length_take]
        exact Nat.lt_of_le_of_lt (show min i ks.length ≤ 10002 by omega) (by decide)
      · rw [upd_same, List.take_add_one, hl, List.map_append]
        unfold rowsV
        rw [List.map_append, List.map_append]
        rfl
      · rw [upd_ne (ne_of_none e nL)]
        exact s2 b o e
    rintro H2 ⟨eL, s2⟩
    rw [List.length_map, List.length_map, List.take_length] at eL
    exact k _ L (s1.trans s2) (s1.free nL) eL
def sp_fed : Sp := fun vs H Q _ => ∃ x : Str, vs = [.str x] ∧ Txt.endswith x "\n" = true ∧ Q (.str x) H
theorem ok_fed {f : Addr} {fd : FuncData} {dvs : List V} (F : Fn K "fed" s_fed dvs f fd) : FnOk P w K mg base CX0 1 f fd ["text"] (sp_fed) := by
  refine Fn.okN F sc_fed (fun vs H Q E h => ?_) (fun cdv A outer s H vs Q E hr h => ?_)
  · obtain ⟨_, rfl, _⟩ := h
    rfl
  · obtain ⟨x, rfl, hx, k⟩ := h
    refine ⟨_, (pss_one (ps_ret (pe_ifExp (pt_val (pe_m1 PySem.F.slot_str_endswith PySem.F.type_str_endswith mt_endswith (pv 0) pe_str)) (pv 0) (pe_op op_add_str (pv 0) pe_str)))), ?_⟩
    refine ⟨_, rfl, ⟨_, rfl⟩, x, "\n", rfl, rfl, _, rfl, ?_⟩
    rw [hx]
    exact iteT ⟨_, rfl, k⟩
def sp_words_of : Sp := fun vs H Q _ => vs = [.str ""] ∧ ∀ (H' : Hp) (p : Addr), Same H H' → H p = none → H' p = some (.lst []) → Q (.ref p) H'
theorem ok_words_of {f : Addr} {fd : FuncData} {dvs : List V} (F : Fn K "words_of" s_words_of dvs f fd) : FnOk P w K mg base CX0 1 f fd ["text"] (sp_words_of) := by
  refine Fn.okN F sc_words_of (fun vs H Q E h => ?_) (fun cdv A outer s H vs Q E hr h => ?_)
  · obtain ⟨rfl, _⟩ := h
    rfl
  · obtain ⟨rfl, k⟩ := h
    refine ⟨_, (pss_cons (ps_set (i := 1) sc_words_of.nd rfl (.inl rfl) (pe_replN (pe_replN (pv 0))))
      (pss_one (ps_ret (pe_lc (own := [("word", 2)]) (g := gName 2) (by rfl) sc_words_of.nd (pi_list (pe_m1 PySem.F.slot_str_split PySem.F.type_str_split mt_split (pv 1) pe_str)) (blkOk_by (own := [("word", 2)]) (N := ["text", "spaced", "word"]) (sc := defScope s_words_of) (by decide +kernel)) (fun _ _ _ _ _ => (pg_name (i := 2) sc_words_of.nd rfl (.inl rfl))) (fun _ _ _ _ _ => (pts_one (pt_tr (K' := K) (pv 2)))) (fun _ _ _ _ _ => (pv 2)))))), ?_⟩
    have o1 : (Builtin.Str.occurrences "" "\t" 0 ("" : Str).length (("" : Str).length + 1)).isEmpty = true := by decide +kernel
    have o2 : (Builtin.Str.occurrences "" "\n" 0 ("" : Str).length (("" : Str).length + 1)).isEmpty = true := by decide +kernel
    have e1 : Txt.split "" " " = [("" : Str)] := by decide +kernel
    refine ⟨_, rfl, "", rfl, o1, "", rfl, o2, .str "", rfl, ⟨_, rfl⟩, "", " ", rfl, rfl, by decide +kernel, by decide, fun p np => ⟨p, rfl, ⟨_, SqL.of upd_same⟩, fun L nL => ?_⟩⟩
    rw [e1] at nL ⊢
    have sp := same_new (o := .lst (([("" : Str)] : List Str).map V.str)) np
    refine lc_list (K := K) (a := p) (xs := ([("" : Str)] : List Str).map V.str) (fun i H2 => H2 L = some (.lst []) ∧ Same (upd H p (.lst (([("" : Str)] : List Str).map V.str))) H2) ⟨upd_same, same_new nL⟩ (fun i H2 _ h => SqL.of (h.2 _ _ upd_same)) ?_ ?_
    · rintro i v H2 hv ⟨eL, s2⟩
      have ev : v = .str "" := by
        have := List.mem_of_getElem? hv
        exact List.mem_singleton.mp this
      subst ev
      refine ⟨rfl, .str "", rfl, _, ⟨by decide, rfl⟩, ?_⟩
      exact iteF ⟨eL, s2⟩
    · rintro H2 ⟨eL, s2⟩
      exact k _ L (sp.trans s2) (sp.free nL) eL
def sp_begins : Sp := fun vs H Q _ => ∃ x y : Str, vs = [.str x, .str y] ∧ x.length ≤ 10000 ∧ Q (.bl (bg x y)) H
theorem ok_begins {f : Addr} {fd : FuncData} {dvs : List V} (F : Fn K "begins" s_begins dvs f fd) : FnOk P w K mg base CX0 1 f fd ["line", "prompt"] (sp_begins) := by
  refine Fn.okN F sc_begins (fun vs H Q E h => ?_) (fun cdv A outer s H vs Q E hr h => ?_)
  · obtain ⟨_, _, rfl, _⟩ := h
    rfl
  · obtain ⟨x, y, rfl, hx, k⟩ := h
    refine ⟨_, (pss_one (ps_ret (pe_m1 PySem.F.slot_str_startswith PySem.F.type_str_startswith mt_startswith (pe_m1 PySem.F.slot_str_lstrip PySem.F.type_str_lstrip mt_lstripChars (pv 0) pe_str) (pv 1)))), ?_⟩
    exact ⟨.str x, rfl, ⟨_, rfl⟩, x, " ", rfl, rfl, line_of (by omega), ⟨_, rfl⟩, .str y, rfl, _, y, rfl, rfl, k⟩
def Short (ws : List (List Nat)) : Prop := ws.length ≤ 1000 ∧ ∀ l ∈ ws, l.length ≤ 9000
def sp_behind_source : Sp := fun vs H Q _ => ∃ (p : Addr) (ws : List (List Nat)) (i : Nat), vs = [.ref p, .int (i : Int)] ∧ H p = some (rowsV ws) ∧ Short ws ∧ (∀ l, ws[i]? = some l → bg (mk l) "..." = false) ∧ Q (.int (i : Int)) H
theorem ok_behind_source {f : Addr} {fd : FuncData} {dvs : List V} (F : Fn K "behind_source" s_behind_source dvs f fd) (O_begins : Own P w K mg base "begins" 1 ["line", "prompt"] [] (sp_begins)) (m_len : mg "len" = none) {t_FURTHER : Tok} (c_FURTHER : mg "FURTHER" = some (.str "..." t_FURTHER)) : FnOk P w K mg base CX0 2 f fd ["lines", "at"] (sp_behind_source) := by
  refine Fn.okN F sc_behind_source (fun vs H Q E h => ?_) (fun cdv A outer s H vs Q E hr h => ?_)
  · obtain ⟨_, _, _, rfl, _⟩ := h
    rfl
  · obtain ⟨p, ws, i, rfl, hp, hs, hn, k⟩ := h
    refine ⟨_, (pss_cons (ps_while PassesOwn.never (PW.pt (pw_and (pt_cmpR op_lt (pv 1) (pe_callB call_len_seq (by rfl) m_len PySem.boot_len (pa_cons (pv 0) pa_nil)) (nomark _)) (pw_and1 (pt_val (pe_own O_begins (hr.mono (by decide)) (by rfl) (pa_cons (pe_ix ix_list (pv 0) (pv 1) (fun _ _ => rfl)) (pa_cons (pe_glob (v := .str "...") rfl c_FURTHER ⟨_, rfl⟩) pa_nil)))))))
          (pss_one (ps_set (i := 1) sc_behind_source.nd rfl (.inl rfl) (pe_op op_add (pv 1) pe_int))))
      (pss_one (ps_ret (pv 1)))), ?_⟩
    have hlen : ((ws.map mk).map V.str).length = ws.length := by rw [List.length_map, List.length_map]
    refine while_by (fun σ H1 => σ = [some (.ref p), some (.int (i : Int))] ∧ H1 = H) (fun _ _ => 0) ⟨rfl, rfl⟩ ?_ (mo_and (mo_test (mo_op mo_I0 mo_var (mo_cb (fun xs H Q Q' i ⟨p, ys, e1, e2, q⟩ => ⟨p, ys, e1, e2, i _ _ q⟩) (mo_cons mo_var mo_nil)))) (mo_B (mo_call (fun vs H Q Q' E i ⟨x, y, e, l, q⟩ => ⟨x, y, e, l, i _ _ q⟩) (mo_cons (mo_op mo_ix mo_var mo_var) (mo_cons mo_const mo_nil)))))
    rintro σ H1 ⟨rfl, rfl⟩
    refine ⟨.int (i : Int), rfl, .ref p, rfl, p, _, rfl, .inl (SqL.of hp), _, _, rfl, rfl, _, rfl, ?_⟩
    rw [hlen]
    cases hl : ws[i]? with
    | none =>
      have : ws.length ≤ i := List.getElem?_eq_none_iff.mp hl
      rw [decide_eq_false (by omega)]
      exact iteF ⟨_, rfl, k⟩
    | some l =>
      have hi : i < ws.length := (List.getElem?_eq_some_iff.mp hl).1
      rw [decide_eq_true (by omega)]
      refine iteT ⟨.ref p, rfl, .int (i : Int), rfl, p, _, _, .str (mk l), rfl, rfl, SqL.of hp, atI_nat (by rw [List.getElem?_map, List.getElem?_map, hl]; rfl), mk l, "...", rfl, by rw [mk_len]; exact Nat.le_trans (hs.2 l (List.mem_of_getElem? hl)) (by decide), _, rfl, ?_⟩
      rw [hn l hl]
      exact iteF ⟨_, rfl, k⟩
def Body (ws : List (List Nat)) : Prop := ∀ l ∈ ws, isBlank l = false ∧ bg (mk l) ">>>" = false
def sp_behind_expected : Sp := fun vs H Q _ => ∃ (p : Addr) (l0 : List Nat) (ws : List (List Nat)), vs = [.ref p, .int 1] ∧ H p = some (rowsV (l0 :: ws)) ∧ Short (l0 :: ws) ∧ Body ws ∧ Q (.int ((ws.length + 1 : Nat) : Int)) H
theorem ok_behind_expected {f : Addr} {fd : FuncData} {dvs : List V} (F : Fn K "behind_expected" s_behind_expected dvs f fd) (O_is_blank : Own P w K mg base "is_blank" 1 ["line"] [] (sp_is_blank)) (O_begins : Own P w K mg base "begins" 1 ["line", "prompt"] [] (sp_begins)) (m_len : mg "len" = none) {t_PROMPT : Tok} (c_PROMPT : mg "PROMPT" = some (.str ">>>" t_PROMPT)) : FnOk P w K mg base CX0 2 f fd ["lines", "at"] (sp_behind_expected) := by
  refine Fn.okN F sc_behind_expected (fun vs H Q E h => ?_) (fun cdv A outer s H vs Q E hr h => ?_)
  · obtain ⟨_, _, _, rfl, _⟩ := h
    rfl
  · obtain ⟨p, l0, ws, rfl, hp, hs, hb, k⟩ := h
    refine ⟨_, (pss_cons (ps_while PassesOwn.never (PW.pt (pw_and (pt_cmpR op_lt (pv 1) (pe_callB call_len_seq (by rfl) m_len PySem.boot_len (pa_cons (pv 0) pa_nil)) (nomark _)) (pw_and (pt_not (pt_val (pe_own O_is_blank (hr.mono (by decide)) (by rfl) (pa_cons (pe_ix ix_list (pv 0) (pv 1) (fun _ _ => rfl)) pa_nil)))) (pw_and1 (pt_not (pt_val (pe_own O_begins (hr.mono (by decide)) (by rfl) (pa_cons (pe_ix ix_list (pv 0) (pv 1) (fun _ _ => rfl)) (pa_cons (pe_glob (v := .str ">>>") rfl c_PROMPT ⟨_, rfl⟩) pa_nil)))))))))
          (pss_one (ps_set (i := 1) sc_behind_expected.nd rfl (.inl rfl) (pe_op op_add (pv 1) pe_int))))
      (pss_one (ps_ret (pv 1)))), ?_⟩
    have hlen : (((l0 :: ws).map mk).map V.str).length = ws.length + 1 := by rw [List.length_map, List.length_map]; rfl
    refine while_by (fun σ H1 => ∃ i : Nat, σ = [some (.ref p), some (.int ((i + 1 : Nat) : Int))] ∧ H1 = H ∧ i ≤ ws.length) (fun σ _ => match σ with | [_, some (.int z)] => (ws.length + 1 - z).toNat | _ => 0) ⟨0, rfl, rfl, Nat.zero_le _⟩ ?_ (mo_and (mo_test (mo_op mo_I0 mo_var (mo_cb (fun xs H Q Q' i ⟨p, ys, e1, e2, q⟩ => ⟨p, ys, e1, e2, i _ _ q⟩) (mo_cons mo_var mo_nil)))) (mo_and (mo_not (mo_B (mo_call (fun vs H Q Q' E i ⟨x, e, l, q⟩ => ⟨x, e, l, i _ _ q⟩) (mo_cons (mo_op mo_ix mo_var mo_var) mo_nil)))) (mo_not (mo_B (mo_call (fun vs H Q Q' E i ⟨x, y, e, l, q⟩ => ⟨x, y, e, l, i _ _ q⟩) (mo_cons (mo_op mo_ix mo_var mo_var) (mo_cons mo_const mo_nil)))))))
    rintro σ H1 ⟨i, rfl, rfl, hi⟩
    refine ⟨.int ((i + 1 : Nat) : Int), rfl, .ref p, rfl, p, _, rfl, .inl (SqL.of hp), _, _, rfl, rfl, _, rfl, ?_⟩
    rw [hlen]
    cases hl : ws[i]? with
    | none =>
      have h1 : ws.length ≤ i := List.getElem?_eq_none_iff.mp hl
      have h2 : i = ws.length := by omega
      subst h2
      rw [decide_eq_false (by omega)]
      exact iteF ⟨_, rfl, k⟩
    | some l =>
      have hlt : i < ws.length := (List.getElem?_eq_some_iff.mp hl).1
      have hg : (((l0 :: ws).map mk).map V.str)[i + 1]? = some (.str (mk l)) := by
        rw [List.getElem?_map, List.getElem?_map, List.getElem?_cons_succ, hl]
        rfl
      have hm := List.mem_of_getElem? hl
      have lm : (mk l).length ≤ 9000 := by rw [mk_len]; exact hs.2 l (List.mem_cons_of_mem _ hm)
      rw [decide_eq_true (by omega)]
      refine iteT ⟨.ref p, rfl, .int ((i + 1 : Nat) : Int), rfl, p, _, _, .str (mk l), rfl, rfl, SqL.of hp, atI_nat hg, mk l, rfl, by omega, _, rfl, ?_⟩
      rw [show isBlank (tl (mk l)) = false from (hb l hm).1]
      refine iteT ⟨.ref p, rfl, .int ((i + 1 : Nat) : Int), rfl, p, _, _, .str (mk l), rfl, rfl, SqL.of hp, atI_nat hg, mk l, ">>>", rfl, by omega, _, rfl, ?_⟩
      rw [(hb l hm).2]
      refine iteT ⟨_, rfl, _, _, rfl, rfl, ⟨i + 1, rfl, rfl, by omega⟩, ?_⟩
      show ((ws.length : Int) + 1 - (((i + 1 : Nat) : Int) + 1)).toNat < ((ws.length : Int) + 1 - ((i + 1 : Nat) : Int)).toNat
      omega
def sp_cuts_of : Sp := fun vs H Q _ => ∃ (p : Addr) (l0 : List Nat) (ws : List (List Nat)), vs = [.ref p] ∧ H p = some (rowsV (l0 :: ws)) ∧ Short (l0 :: ws) ∧ bg (mk l0) ">>>" = true ∧ (∀ l, ws[0]? = some l → bg (mk l) "..." = false) ∧ Body ws ∧
  ∀ (H' : Hp) (q t : Addr), Same H H' → H q = none → H t = none → H' q = some (.lst [.ref t]) → H' t = some (.tup [.int 0, .int 1, .int ((ws.length + 1 : Nat) : Int)]) → Q (.ref q) H'
theorem ok_cuts_of {f : Addr} {fd : FuncData} {dvs : List V} (F : Fn K "cuts_of" s_cuts_of dvs f fd) (O_begins : Own P w K mg base "begins" 1 ["line", "prompt"] [] (sp_begins)) (O_behind_source : Own P w K mg base "behind_source" 2 ["lines", "at"] [] (sp_behind_source)) (O_behind_expected : Own P w K mg base "behind_expected" 2 ["lines", "at"] [] (sp_behind_expected)) (m_len : mg "len" = none) {t_PROMPT : Tok} (c_PROMPT : mg "PROMPT" = some (.str ">>>" t_PROMPT)) : FnOk P w K mg base CX0 3 f fd ["lines"] (sp_cuts_of) := by
  refine Fn.okN F sc_cuts_of (fun vs H Q E h => ?_) (fun cdv A outer s H vs Q E hr h => ?_)
  · obtain ⟨_, _, _, rfl, _⟩ := h
    rfl
  · obtain ⟨p, l0, ws, rfl, hp, hs, h0, h1, hb, k⟩ := h
    refine ⟨_, (pss_cons (ps_set (i := 1) sc_cuts_of.nd rfl (.inl rfl) (pe_lst pa_nil))
      (pss_cons (ps_set (i := 2) sc_cuts_of.nd rfl (.inl rfl) pe_int)
      (pss_cons (ps_while PassesOwn.never (pt_cmpR op_lt (pv 2) (pe_callB call_len_seq (by rfl) m_len PySem.boot_len (pa_cons (pv 0) pa_nil)) (nomark _))
          (pss_one (ps_if (pt_val (pe_own O_begins (hr.mono (by decide)) (by rfl) (pa_cons (pe_ix ix_list (pv 0) (pv 2) (fun _ _ => rfl)) (pa_cons (pe_glob (v := .str ">>>") rfl c_PROMPT ⟨_, rfl⟩) pa_nil))))
                (pss_cons (ps_set (i := 3) sc_cuts_of.nd rfl (.inl rfl) (pe_own O_behind_source (hr.mono (by decide)) (by rfl) (pa_cons (pv 0) (pa_cons (pe_op op_add (pv 2) pe_int) pa_nil))))
                  (pss_cons (ps_set (i := 4) sc_cuts_of.nd rfl (.inl rfl) (pe_own O_behind_expected (hr.mono (by decide)) (by rfl) (pa_cons (pv 0) (pa_cons (pv 3) pa_nil))))
                  (pss_cons (ps_expr (pe_bm PySem.F.plainAttrs_list PySem.F.slot_list_append PySem.F.type_list_append mt_append (pv 1) (pa_cons (pe_tup (pa_cons (pv 2) (pa_cons (pv 3) (pa_cons (pv 4) pa_nil)))) pa_nil)))
                  (pss_one (ps_set (i := 2) sc_cuts_of.nd rfl (.inl rfl) (pv 4))))))
                (pss_one (ps_set (i := 2) sc_cuts_of.nd rfl (.inl rfl) (pe_op op_add (pv 2) pe_int))))))
      (pss_one (ps_ret (pv 1)))))), ?_⟩
    have hlen : (((l0 :: ws).map mk).map V.str).length = ws.length + 1 := by rw [List.length_map, List.length_map]; rfl
    refine ⟨by show 0 ≤ sizeLine; decide, fun C nC => ?_⟩
    have sC := same_new (o := .lst []) nC
    have pC : p ≠ C := ne_of_none hp nC
    refine while_by (fun σ H1 => (σ = [some (.ref p), some (.ref C), some (.int 0), none, none] ∧ H1 = upd H C (.lst [])) ∨ ∃ t : Addr, σ = [some (.ref p), some (.ref C), some (.int ((ws.length + 1 : Nat) : Int)), some (.int 1), some (.int ((ws.length + 1 : Nat) : Int))] ∧ Same H H1 ∧ H t = none ∧ H1 C = some (.lst [.ref t]) ∧ H1 t = some (.tup [.int 0, .int 1, .int ((ws.length + 1 : Nat) : Int)]))
      (fun σ _ => match σ with | [_, _, some (.int z), _, _] => (ws.length + 1 - z).toNat | _ => 0) (.inl ⟨rfl, rfl⟩) ?_ (mo_test (mo_op mo_I0 mo_var (mo_cb (fun xs H Q Q' i ⟨p, ys, e1, e2, q⟩ => ⟨p, ys, e1, e2, i _ _ q⟩) (mo_cons mo_var mo_nil))))
    rintro σ H1 (⟨rfl, rfl⟩ | ⟨t, rfl, s1, nt, e1, e2⟩)
    · have hp1 := sC _ _ hp
      refine ⟨.int 0, rfl, .ref p, rfl, p, _, rfl, .inl (SqL.of hp1), _, _, rfl, rfl, _, rfl, ?_⟩
      rw [hlen, decide_eq_true (by omega)]
      refine iteT ⟨.ref p, rfl, .int 0, rfl, p, _, 0, .str (mk l0), rfl, rfl, SqL.of hp1, atI_nat (j := 0) rfl, mk l0, ">>>", rfl, by rw [mk_len]; exact Nat.le_trans (hs.2 l0 (List.mem_cons_self ..)) (by decide), _, rfl, ?_⟩
      rw [h0]
      refine iteT ⟨.ref p, rfl, .int 0, rfl, _, _, rfl, rfl, p, l0 :: ws, 1, rfl, hp1, hs, fun l hl => h1 l hl, ?_⟩
      refine ⟨.ref p, rfl, .int 1, rfl, p, l0, ws, rfl, hp1, hs, hb, ?_⟩
      refine ⟨.ref C, rfl, .inl ⟨rfl, _, SqL.of upd_same⟩, .int 0, rfl, .int 1, rfl, .int ((ws.length + 1 : Nat) : Int), rfl, by show 3 ≤ sizeLine; decide, fun T nT => ?_⟩
      have sT := same_new (o := .tup [.int 0, .int 1, .int ((ws.length + 1 : Nat) : Int)]) nT
      have CT : C ≠ T := ne_of_none upd_same nT
      refine ⟨C, [], _, rfl, rfl, sT _ _ upd_same, by decide, _, rfl, .inr ⟨T, rfl, fun b o e => ?_, sC.free nT, upd_same, by rw [upd_ne CT.symm]; exact upd_same⟩, ?_⟩
      · rw [upd_ne (ne_of_none e nC)]
        exact sT _ _ (sC _ _ e)
      · show ((ws.length : Int) + 1 - ((ws.length + 1 : Nat) : Int)).toNat < ((ws.length : Int) + 1 - 0).toNat
        omega
    · refine ⟨.int ((ws.length + 1 : Nat) : Int), rfl, .ref p, rfl, p, _, rfl, .inl (SqL.of (s1 _ _ hp)), _, _, rfl, rfl, _, rfl, ?_⟩
      rw [hlen, decide_eq_false (by omega)]
      exact iteF ⟨.ref C, rfl, k _ C t s1 nC nt e1 e2⟩
def sp_refuse_wrong_indents : Sp := fun vs H Q _ => ∃ (p : Addr) (ws : List (List Nat)) (a b : Nat) (y : Str), vs = [.ref p, .int (a : Int), .int (b : Int), .str y] ∧ H p = some (rowsV ws) ∧ a ≤ 1000 ∧ b ≤ ws.length ∧ Short ws ∧ (∀ j l, a ≤ j → j < b → ws[j]? = some l → Txt.startswith (mk l) y = true) ∧ Q .non H
theorem ok_refuse_wrong_indents {f : Addr} {fd : FuncData} {dvs : List V} (F : Fn K "refuse_wrong_indents" s_refuse_wrong_indents dvs f fd) (m_range : mg "range" = none) : FnOk P w K mg base CX0 1 f fd ["lines", "start", "end", "ahead"] (sp_refuse_wrong_indents) := by
  refine Fn.okN F sc_refuse_wrong_indents (fun vs H Q E h => ?_) (fun cdv A outer s H vs Q E hr h => ?_)
  · obtain ⟨_, _, _, _, _, rfl, _⟩ := h
    rfl
  · obtain ⟨p, ws, a, b, y, rfl, hp, ha, hb, hs, hy, k⟩ := h
    refine ⟨_, (pss_one (ps_for PassesOwn.never rfl (pi_range2 rfl m_range (pa_cons (pv 1) (pa_cons (pv 2) pa_nil))) (pg_name (i := 4) sc_refuse_wrong_indents.nd rfl (.inl rfl))
          (pss_one (ps_if (pt_not (pt_val (pe_m1 PySem.F.slot_str_startswith PySem.F.type_str_startswith mt_startswith (pe_ix ix_list (pv 0) (pv 4) (fun _ _ => rfl)) (pv 3))))
                (pss_one ps_never)
                pss_nil)))), ?_⟩
    have h1 := hs.1
    refine ⟨.int (a : Int), rfl, .int (b : Int), rfl, a, b, rfl, ⟨by omega, by omega, by omega, by omega⟩, for_range (lo := (a : Int)) (n := ((b : Int) - (a : Int)).toNat) (fun i σ H1 => ∃ v4, σ = [some (.ref p), some (.int (a : Int)), some (.int (b : Int)), some (.str y), v4] ∧ H1 = H) ⟨_, rfl, rfl⟩ ?_ ?_⟩
    · rintro i σ H1 hi ⟨v4, rfl, rfl⟩
      have hj : a + i < ws.length := by omega
      refine ⟨.ref p, rfl, .int ((a : Int) + (i : Nat)), rfl, p, _, _, .str (mk ws[a + i]), rfl, rfl, SqL.of hp, ?_, ⟨_, rfl⟩, .str y, rfl, mk ws[a + i], y, rfl, rfl, _, rfl, ?_⟩
      · rw [show ((a : Int) + (i : Nat)) = ((a + i : Nat) : Int) by omega]
        exact atI_nat (by rw [List.getElem?_map, List.getElem?_map, List.getElem?_eq_getElem hj]; rfl)
      · rw [hy (a + i) ws[a + i] (by omega) (by omega) (List.getElem?_eq_getElem hj)]
        exact iteF ⟨_, rfl, rfl⟩
    · rintro σ H1 ⟨v4, rfl, rfl⟩
      exact k
def sp_refuse_wrong_lines : Sp := fun vs H Q _ => ∃ (p t : Addr) (ws : List (List Nat)), vs = [.ref p, .ref t] ∧ H p = some (rowsV (X0 :: ws)) ∧ H t = some (.tup [.int 0, .int 1, .int ((ws.length + 1 : Nat) : Int)]) ∧ Short (X0 :: ws) ∧ ∀ H', Same H H' → Q .non H'
theorem ok_refuse_wrong_lines {f : Addr} {fd : FuncData} {dvs : List V} (F : Fn K "refuse_wrong_lines" s_refuse_wrong_lines dvs f fd) (O_indent_of : Own P w K mg base "indent_of" 1 ["line"] [] (sp_indent_of)) (O_refuse_wrong_indents : Own P w K mg base "refuse_wrong_indents" 1 ["lines", "start", "end", "ahead"] [] (sp_refuse_wrong_indents)) (m_len : mg "len" = none) (m_range : mg "range" = none) {t_PROMPT : Tok} (c_PROMPT : mg "PROMPT" = some (.str ">>>" t_PROMPT)) : FnOk P w K mg base CX0 2 f fd ["lines", "cut"] (sp_refuse_wrong_lines) := by
  refine Fn.okN F sc_refuse_wrong_lines (fun vs H Q E h => ?_) (fun cdv A outer s H vs Q E hr h => ?_)
  · obtain ⟨_, _, _, rfl, _⟩ := h
    rfl
  · obtain ⟨p, t, ws, rfl, hp, ht, hs, k⟩ := h
    refine ⟨_, (pss_cons (ps_asg (pv 1) (pg_tup rfl (pgs_cons (pg_name (i := 2) sc_refuse_wrong_lines.nd rfl (.inl rfl)) (pgs_cons (pg_name (i := 3) sc_refuse_wrong_lines.nd rfl (.inl rfl)) (pgs_cons (pg_name (i := 4) sc_refuse_wrong_lines.nd rfl (.inl rfl)) pgs_nil)))))
      (pss_cons (ps_set (i := 5) sc_refuse_wrong_lines.nd rfl (.inl rfl) (pe_own O_indent_of (hr.mono (by decide)) (by rfl) (pa_cons (pe_ix ix_list (pv 0) (pv 2) (fun _ _ => rfl)) pa_nil)))
      (pss_cons (ps_set (i := 6) sc_refuse_wrong_lines.nd rfl (.inl rfl) (pe_op op_add (pv 5) (pe_callB call_len_str (by rfl) m_len PySem.boot_len (pa_cons (pe_glob (v := .str ">>>") rfl c_PROMPT ⟨_, rfl⟩) pa_nil))))
      (pss_cons (ps_for PassesOwn.never rfl (pi_range2 rfl m_range (pa_cons (pv 2) (pa_cons (pv 3) pa_nil))) (pg_name (i := 7) sc_refuse_wrong_lines.nd rfl (.inl rfl))
          (pss_one (ps_if (pt_cmpR op_notIn_seq (pe_slice sl_str (pe_ix ix_list (pv 0) (pv 7) (fun _ _ => rfl)) (po_some (pv 6)) (po_some (pe_op op_add (pv 6) pe_int))) (pe_tup (pa_cons pe_str (pa_cons pe_str pa_nil))) rfl)
                (pss_one ps_never)
                pss_nil)))
      (pss_cons (ps_expr (pe_own O_refuse_wrong_indents (hr.mono (by decide)) (by rfl) (pa_cons (pv 0) (pa_cons (pe_op op_add (pv 2) pe_int) (pa_cons (pv 3) (pa_cons (pe_op op_add_str (pe_op op_repS pe_str (pv 5)) pe_str) pa_nil))))))
      (pss_one (ps_expr (pe_own O_refuse_wrong_indents (hr.mono (by decide)) (by rfl) (pa_cons (pv 0) (pa_cons (pv 3) (pa_cons (pv 4) (pa_cons (pe_op op_repS pe_str (pv 5)) pa_nil)))))))))))), ?_⟩
    have e0 : lead (tl (mk X0)) = 0 := by decide +kernel
    have h1 := hs.1
    rw [List.length_cons] at h1
    have mo : MulOk " " ((0 : Nat) : Int) := ⟨by decide, fun h => absurd (by decide) h, fun h => absurd (by decide) h⟩
    have me : Txt.mul " " ((0 : Nat) : Int) = "" := by decide +kernel
    refine ⟨.ref t, rfl, t, _, rfl, SqT.of ht, rfl, _, _, rfl, _, _, rfl, _, _, rfl, rfl, .ref p, rfl, .int 0, rfl, p, _, 0, .str (mk X0), rfl, rfl, SqL.of hp, atI_nat (j := 0) rfl, mk X0, rfl, by decide, ?_⟩
    rw [e0]
    refine ⟨.int (0 : Nat), rfl, ">>>", rfl, by decide +kernel, _, _, rfl, rfl, .int 0, rfl, .int 1, rfl, 0, 1, rfl, by decide, for_range (lo := 0) (n := 1) (fun i σ H1 => ∃ v7, σ = [some (.ref p), some (.ref t), some (.int 0), some (.int 1), some (.int ((ws.length + 1 : Nat) : Int)), some (.int (0 : Nat)), some (.int (((0 : Nat) : Int) + ((">>>" : Str).length : Nat))), v7] ∧ Same H H1) ⟨_, rfl, fun _ _ e => e⟩ ?_ ?_⟩
    · rintro i σ H1 hi ⟨v7, rfl, s1⟩
      have hi0 : i = 0 := by omega
      subst hi0
      refine ⟨.ref p, rfl, .int (0 + (0 : Nat)), rfl, p, _, _, .str (mk X0), rfl, rfl, SqL.of (s1 _ _ hp), atI_nat (j := 0) rfl, .int _, rfl, _, rfl, .int _, rfl, _, _, rfl, rfl, _, rfl, mk X0, rfl, by decide, by show 2 ≤ sizeLine; decide, fun T nT => ⟨T, _, rfl, .inr (SqT.of upd_same), rfl, rfl, _, rfl, ?_⟩⟩
      rw [show (if true = true then !inV (.str (cutS (mk X0) (some (((0 : Nat) : Int) + ((">>>" : Str).length : Nat))) (some (((0 : Nat) : Int) + ((">>>" : Str).length : Nat) + 1)))) [.str "", .str " "] else inV (.str (cutS (mk X0) (some (((0 : Nat) : Int) + ((">>>" : Str).length : Nat))) (some (((0 : Nat) : Int) + ((">>>" : Str).length : Nat) + 1)))) [.str "", .str " "]) = false by decide +kernel]
      exact iteF ⟨_, rfl, s1.trans (same_new nT)⟩
    · rintro σ H1 ⟨v7, rfl, s1⟩
      refine ⟨.ref p, rfl, .int 0, rfl, _, _, rfl, rfl, .int 1, rfl, .int (0 : Nat), rfl, " ", _, rfl, rfl, mo, _, ".", rfl, rfl, ?_, p, X0 :: ws, 1, 1, _, rfl, s1 _ _ hp, by decide, by rw [List.length_cons]; omega, hs, fun j l a b _ => absurd b (by omega), ?_⟩
      · rw [me]
        decide +kernel
      refine ⟨.ref p, rfl, .int 1, rfl, .int ((ws.length + 1 : Nat) : Int), rfl, .int (0 : Nat), rfl, " ", _, rfl, rfl, mo, p, X0 :: ws, 1, ws.length + 1, _, rfl, s1 _ _ hp, by decide, Nat.le_refl _, hs, fun j l _ _ _ => ?_, k _ s1⟩
      rw [me]
      exact starts_empty _
def sp_require_flags : Sp := fun vs H Q _ => ∃ d : Addr, vs = [.ref d] ∧ H d = some (.dK []) ∧ ∀ H', Same H H' → Q .non H'
theorem ok_require_flags {f : Addr} {fd : FuncData} {dvs : List V} (F : Fn K "require_flags" s_require_flags dvs f fd) : FnOk P w K mg base CX0 1 f fd ["flags"] (sp_require_flags) := by
  refine Fn.okN F sc_require_flags (fun vs H Q E h => ?_) (fun cdv A outer s H vs Q E hr h => ?_)
  · obtain ⟨_, rfl, _⟩ := h
    rfl
  · obtain ⟨d, rfl, hd, k⟩ := h
    refine ⟨_, (pss_one (ps_lock (ps_for PassesOwn.never rfl (pi_keys (pv 0)) (pg_name (i := 1) sc_require_flags.nd rfl (.inl rfl))
          (pss_one ps_never)))), ?_⟩
    refine ⟨d, .dK [], hd, trivial, fun od => ⟨.ref d, rfl, d, od, rfl, .inl ⟨[], upd_same, ?_⟩⟩⟩
    refine ⟨fun i m σ H1 => i = 0 ∧ m = 0 ∧ σ = L2.start ["flags", "thing"] [V.ref d] ∧ H1 = upd H d (.frz od (.dK [])), ⟨0, rfl, rfl, rfl, rfl⟩, ?_⟩
    rintro i m σ H1 ⟨rfl, rfl, rfl, rfl⟩
    refine .inl ⟨⟨upd_same, Nat.zero_le _⟩, upd_same, k _ fun b o e => ?_⟩
    by_cases hb : b = d
    · rw [hb] at e ⊢
      rw [hd] at e
      cases e
      exact upd_same
    · rw [upd_ne hb, upd_ne hb]
      exact e
def sp_directive_of : Sp := fun vs H Q _ => ∃ x : Str, vs = [.str x] ∧ (35 : Nat) ∉ tl x ∧ x.length ≤ 10000 ∧ Q (.str "") H
theorem ok_directive_of {f : Addr} {fd : FuncData} {dvs : List V} (F : Fn K "directive_of" s_directive_of dvs f fd) (m_max : mg "max" = none) {t_BLANKS : Tok} (c_BLANKS : mg "BLANKS" = some (.str " \t" t_BLANKS)) {t_MARK : Tok} (c_MARK : mg "MARK" = some (.str "doctest:" t_MARK)) : FnOk P w K mg base CX0 1 f fd ["line"] (sp_directive_of) := by
  refine Fn.okN F sc_directive_of (fun vs H Q E h => ?_) (fun cdv A outer s H vs Q E hr h => ?_)
  · obtain ⟨_, rfl, _⟩ := h
    rfl
  · obtain ⟨x, rfl, h35, hx, k⟩ := h
    refine ⟨_, (pss_cons (ps_set (i := 1) sc_directive_of.nd rfl (.inl rfl) (pe_bm PySem.F.plainAttrs_str PySem.F.slot_str_find PySem.F.type_str_find mt_find3 (pv 0) (pa_cons pe_str (pa_cons (pe_op op_add (pe_callB (call_max2 rfl) (by rfl) m_max (by decide +kernel) (pa_cons (pe_m1 PySem.F.slot_str_rfind PySem.F.type_str_rfind mt_rfind (pv 0) pe_str) (pa_cons (pe_m1 PySem.F.slot_str_rfind PySem.F.type_str_rfind mt_rfind (pv 0) pe_str) pa_nil))) pe_int) pa_nil))))
      (pss_cons (ps_while PassesOwn.never (PW.pt (pw_and (pt_cmpR op_ge (pv 1) pe_int (nomark _)) (pw_and1 (pt_not (pt_val (pe_m1 PySem.F.slot_str_startswith PySem.F.type_str_startswith mt_startswith (pe_m1 PySem.F.slot_str_lstrip PySem.F.type_str_lstrip mt_lstripChars (pe_slice sl_str (pv 0) (po_some (pe_op op_add (pv 1) pe_int)) po_none) (pe_glob (v := .str " \t") rfl c_BLANKS ⟨_, rfl⟩)) (pe_glob (v := .str "doctest:") rfl c_MARK ⟨_, rfl⟩)))))))
          (pss_one (ps_set (i := 1) sc_directive_of.nd rfl (.inl rfl) (pe_bm PySem.F.plainAttrs_str PySem.F.slot_str_find PySem.F.type_str_find mt_find3 (pv 0) (pa_cons pe_str (pa_cons (pe_op op_add (pv 1) pe_int) pa_nil))))))
      (pss_one (ps_ret (pe_ifExp (pt_cmpR op_lt (pv 1) pe_int (nomark _)) pe_str (pe_slice sl_str (pv 0) (po_some (pv 1)) po_none)))))), ?_⟩
    have hf : ∀ i : Int, Txt.find3 x "#" i = -1 := fun i => find3_none h35 i
    refine ⟨.str x, rfl, rfl, .str x, rfl, ⟨_, rfl⟩, x, "'", rfl, rfl, .str x, rfl, ⟨_, rfl⟩, x, "\"", rfl, rfl, _, _, rfl, _, _, rfl, rfl, x, "#", _, rfl, rfl, ?_⟩
    rw [hf]
    refine while_by (fun σ H1 => σ = [some (.str x), some (.int (-1))] ∧ H1 = H) (fun _ _ => 0) ⟨rfl, rfl⟩ ?_ (mo_and (mo_test (mo_op mo_I0 mo_var mo_const)) (mo_not (mo_B (mo_m1 (fun x xs H Q Q' i ⟨a, b, e1, e2, q⟩ => ⟨a, b, e1, e2, i _ _ q⟩) (mo_m1 (fun x xs H Q Q' i ⟨a, b, e1, e2, e3, q⟩ => ⟨a, b, e1, e2, e3, i _ _ q⟩) ?_ mo_const) mo_const))))
    · rintro σ H1 ⟨rfl, rfl⟩
      refine ⟨_, rfl, _, _, rfl, rfl, _, rfl, ?_⟩
      rw [decide_eq_false (by decide)]
      refine iteF ⟨_, rfl, _, _, rfl, rfl, _, rfl, ?_⟩
      rw [decide_eq_true (by decide)]
      exact iteT k
    · rintro σ H Q Q' i ⟨v1, e1, v2, e2, a, b, e3, e4, j, e5, z, e6, e7, q⟩
      exact ⟨v1, e1, v2, e2, a, b, e3, e4, j, e5, z, e6, e7, i _ _ q⟩
def sp_directive_words : Sp := fun vs H Q _ => ∃ x : Str, vs = [.str x] ∧ (35 : Nat) ∉ tl x ∧ x.length ≤ 10000 ∧ ∀ (H' : Hp) (p : Addr), Same H H' → H p = none → H' p = some (.lst []) → Q (.ref p) H'
theorem ok_directive_words {f : Addr} {fd : FuncData} {dvs : List V} (F : Fn K "directive_words" s_directive_words dvs f fd) (O_words_of : Own P w K mg base "words_of" 1 ["text"] [] (sp_words_of)) (O_directive_of : Own P w K mg base "directive_of" 1 ["line"] [] (sp_directive_of)) : FnOk P w K mg base CX0 2 f fd ["line"] (sp_directive_words) := by
  refine Fn.okN F sc_directive_words (fun vs H Q E h => ?_) (fun cdv A outer s H vs Q E hr h => ?_)
  · obtain ⟨_, rfl, _⟩ := h
    rfl
  · obtain ⟨x, rfl, h35, hx, k⟩ := h
    refine ⟨_, (pss_one (ps_ret (pe_own O_words_of (hr.mono (by decide)) (by rfl) (pa_cons (pe_replN (pe_ix ix_tup (pe_m1 PySem.F.slot_str_partition PySem.F.type_str_partition mt_partition (pe_own O_directive_of (hr.mono (by decide)) (by rfl) (pa_cons (pv 0) pa_nil)) pe_str) pe_int (fun _ _ => rfl))) pa_nil)))), ?_⟩
    refine ⟨.str x, rfl, x, rfl, h35, hx, ⟨_, rfl⟩, "", ":", rfl, rfl, by decide +kernel, by decide, fun T nT => ?_⟩
    have sT := same_new (o := .tup [.str (Txt.partition "" ":").1, .str (Txt.partition "" ":").2.1, .str (Txt.partition "" ":").2.2]) nT
    have e2 : (Txt.partition "" ":").2.2 = "" := by decide +kernel
    refine ⟨T, _, 2, .str (Txt.partition "" ":").2.2, rfl, rfl, SqT.of upd_same, atI_nat (j := 2) rfl, ?_⟩
    rw [e2]
    refine ⟨"", rfl, by decide +kernel, rfl, fun H1 p s1 np ep => ?_⟩
    rw [e2] at sT
    exact k _ p (sT.trans s1) (sT.free np) ep
def sp_options_of : Sp := fun vs H Q _ => ∃ n : Int, vs = [.str "x\n", .int n] ∧ ∀ (H' : Hp) (p : Addr), Same H H' → H p = none → H' p = some (.dK []) → Q (.ref p) H'
theorem ok_options_of {f : Addr} {fd : FuncData} {dvs : List V} (F : Fn K "options_of" s_options_of dvs f fd) (O_lines_of : Own P w K mg base "lines_of" 2 ["text"] [] (sp_lines_of)) (O_directive_words : Own P w K mg base "directive_words" 2 ["line"] [] (sp_directive_words)) : FnOk P w K mg base CX0 3 f fd ["source", "number"] (sp_options_of) := by
  refine Fn.okN F sc_options_of (fun vs H Q E h => ?_) (fun cdv A outer s H vs Q E hr h => ?_)
  · obtain ⟨_, rfl, _⟩ := h
    rfl
  · obtain ⟨n, rfl, k⟩ := h
    refine ⟨_, (pss_cons (ps_set (i := 2) sc_options_of.nd rfl (.inl rfl) pe_dnewK)
      (pss_cons (ps_for PassesOwn.never rfl (pi_list (pe_own O_lines_of (hr.mono (by decide)) (by rfl) (pa_cons (pv 0) pa_nil))) (pg_name (i := 3) sc_options_of.nd rfl (.inl rfl))
          (pss_one (ps_for PassesOwn.never rfl (pi_list (pe_own O_directive_words (hr.mono (by decide)) (by rfl) (pa_cons (pv 3) pa_nil))) (pg_name (i := 4) sc_options_of.nd rfl (.inl rfl))
                (pss_cons ps_never
                  (pss_one ps_never)))))
      (pss_one (ps_ret (pv 2))))), ?_⟩
    refine fun C nC => ⟨.str "x\n", rfl, "x\n", [[120]], [], rfl, by decide +kernel, (by intro l hl; revert hl; revert l; decide), by decide +kernel, fun H1 p s1 np ep => ⟨p, rfl, ⟨_, SqL.of ep⟩, ?_⟩⟩
    have sC := same_new (o := .dK []) nC
    have eC := s1 _ _ (upd_same (H := H) (a := C) (o := .dK []))
    refine for_list (K := K) (a := p) (xs := ((rowsOf [[120]] []).map mk).map V.str) (fun i σ H2 => ∃ v3 v4 : Option V, σ = [some (.str "x\n"), some (.int n), some (.ref C), v3, v4] ∧ Same H1 H2) ⟨_, _, rfl, fun _ _ e => e⟩ (fun i σ H2 _ h => by obtain ⟨_, _, _, s⟩ := h; exact SqL.of (s _ _ ep)) ?_ ?_
    · rintro i v σ H2 hv ⟨v3, v4, rfl, s2⟩
      have ev : v = .str (mk [120]) := List.mem_singleton.mp (List.mem_of_getElem? hv)
      subst ev
      refine ⟨.str (mk [120]), rfl, mk [120], rfl, by decide +kernel, by decide +kernel, fun H3 q s3 nq eq => ⟨q, rfl, ⟨_, SqL.of eq⟩, for_list (K := K) (a := q) (xs := []) (fun i σ H4 => ∃ v3 v4 : Option V, σ = [some (.str "x\n"), some (.int n), some (.ref C), v3, v4] ∧ H4 = H3) ⟨_, _, rfl, rfl⟩ (fun i σ H4 _ h => by obtain ⟨_, _, _, rfl⟩ := h; exact SqL.of eq) ?_ ?_⟩⟩
      · rintro i v σ H4 hv _
        cases hv
      · rintro σ H4 ⟨v3, v4, rfl, rfl⟩
        exact ⟨_, _, rfl, s2.trans s3⟩
    · rintro σ H2 ⟨v3, v4, rfl, s2⟩
      exact ⟨.ref C, rfl, k _ C (sC.trans (s1.trans s2)) nC (s2 _ _ eC)⟩
def sp_bare_line : Sp := fun vs H Q _ => vs = [.str "x"] ∧ Q (.str "x") H
theorem ok_bare_line {f : Addr} {fd : FuncData} {dvs : List V} (F : Fn K "bare_line" s_bare_line dvs f fd) (O_directive_of : Own P w K mg base "directive_of" 1 ["line"] [] (sp_directive_of)) {t_BLANKS : Tok} (c_BLANKS : mg "BLANKS" = some (.str " \t" t_BLANKS)) : FnOk P w K mg base CX0 2 f fd ["line"] (sp_bare_line) := by
  refine Fn.okN F sc_bare_line (fun vs H Q E h => ?_) (fun cdv A outer s H vs Q E hr h => ?_)
  · obtain ⟨rfl, _⟩ := h
    rfl
  · obtain ⟨rfl, k⟩ := h
    refine ⟨_, (pss_one (ps_ret (pe_m1 PySem.F.slot_str_rstrip PySem.F.type_str_rstrip mt_rstripChars (pe_m1 PySem.F.slot_str_removesuffix PySem.F.type_str_removesuffix mt_removesuffix (pv 0) (pe_own O_directive_of (hr.mono (by decide)) (by rfl) (pa_cons (pv 0) pa_nil))) (pe_glob (v := .str " \t") rfl c_BLANKS ⟨_, rfl⟩)))), ?_⟩
    have e : Txt.rstripChars (Txt.removesuffix "x" "") " \t" = "x" := by decide +kernel
    rw [← e] at k
    exact ⟨.str "x", rfl, ⟨_, rfl⟩, .str "x", rfl, "x", rfl, by decide +kernel, by decide +kernel, "x", "", rfl, rfl, by decide +kernel, ⟨_, rfl⟩, _, " \t", rfl, rfl, by decide +kernel, k⟩
def sp_bare_of : Sp := fun vs H Q _ => vs = [.str "x\n"] ∧ ∀ H', Same H H' → Q (.str "x\n") H'
theorem ok_bare_of {f : Addr} {fd : FuncData} {dvs : List V} (F : Fn K "bare_of" s_bare_of dvs f fd) (O_lines_of : Own P w K mg base "lines_of" 2 ["text"] [] (sp_lines_of)) (O_bare_line : Own P w K mg base "bare_line" 2 ["line"] [] (sp_bare_line)) : FnOk P w K mg base CX0 3 f fd ["source"] (sp_bare_of) := by
  refine Fn.okN F sc_bare_of (fun vs H Q E h => ?_) (fun cdv A outer s H vs Q E hr h => ?_)
  · obtain ⟨rfl, _⟩ := h
    rfl
  · obtain ⟨rfl, k⟩ := h
    refine ⟨_, (pss_one (ps_ret (pe_m1 PySem.F.slot_str_join PySem.F.type_str_join mt_join pe_str (pe_lc (own := [("line", 1)]) (g := gName 1) (tt := tYes) (by rfl) sc_bare_of.nd (pi_list (pe_own O_lines_of (hr.mono (by decide)) (by rfl) (pa_cons (pv 0) pa_nil))) (blkOk_by (own := [("line", 1)]) (N := ["source", "line"]) (sc := defScope s_bare_of) (by decide +kernel)) (fun _ _ _ _ _ => (pg_name (i := 1) sc_bare_of.nd rfl (.inl rfl))) (fun _ _ _ _ _ => pts_nil) (fun _ _ _ _ _ => (pe_op op_add_str (pe_own O_bare_line (hr.mono (by decide)) (by rfl) (pa_cons (pv 1) pa_nil)) pe_str)))))), ?_⟩
    have ej : Txt.join "" ([mk [120, 10]].map id) = "x\n" := by decide +kernel
    refine ⟨⟨_, rfl⟩, .str "x\n", rfl, "x\n", [[120]], [], rfl, by decide +kernel, (by intro l hl; revert hl; revert l; decide), by decide +kernel, fun H1 p s1 np ep => ⟨p, rfl, ⟨_, SqL.of ep⟩, fun L nL => ?_⟩⟩
    refine lc_list (K := K) (a := p) (xs := ((rowsOf [[120]] []).map mk).map V.str) (fun i H2 => H2 L = some (.lst (([mk [120, 10]].take i).map V.str)) ∧ Same H1 H2) ⟨upd_same, same_new nL⟩ (fun i H2 _ h => SqL.of (h.2 _ _ ep)) ?_ ?_
    · rintro i v H2 hv ⟨eL, s2⟩
      have ev : v = .str (mk [120]) := List.mem_singleton.mp (List.mem_of_getElem? hv)
      have hi : i = 0 := by
        have : i < 1 := (List.getElem?_eq_some_iff.mp hv).1
        omega
      subst ev hi
      refine ⟨rfl, ?_⟩
      unfold tYes
      show ite (true = true) _ _
      rw [if_pos rfl]
      refine ⟨.str (mk [120]), rfl, congrArg (fun z => [V.str z]) (by decide +kernel : mk [120] = ("x" : Str)), _, _, rfl, rfl, by decide +kernel, _, eL, by decide, ?_, fun b o e => ?_⟩
      · rw [upd_same]
        exact congrArg (fun z => some (HO.lst [V.str z])) (by decide +kernel : ("x" : Str) ++ "\n" = mk [120, 10])
      · rw [upd_ne (ne_of_none e nL)]
        exact s2 b o e
    · rintro H2 ⟨eL, s2⟩
      refine ⟨"", L, [mk [120, 10]], rfl, rfl, .inl (SqL.of eL), by decide +kernel, ?_⟩
      rw [show Txt.join "" [mk [120, 10]] = "x\n" from ej]
      exact k _ (s1.trans s2)
def sp_is_remark : Sp := fun vs H Q _ => vs = [.str "x\n"] ∧ ∀ H', Same H H' → Q (.bl false) H'
theorem ok_is_remark {f : Addr} {fd : FuncData} {dvs : List V} (F : Fn K "is_remark" s_is_remark dvs f fd) (O_lines_of : Own P w K mg base "lines_of" 2 ["text"] [] (sp_lines_of)) (O_is_blank : Own P w K mg base "is_blank" 1 ["line"] [] (sp_is_blank)) (m_all : mg "all" = none) {t_BLANKS : Tok} (c_BLANKS : mg "BLANKS" = some (.str " \t" t_BLANKS)) : FnOk P w K mg base CX0 3 f fd ["source"] (sp_is_remark) := by
  refine Fn.okN F sc_is_remark (fun vs H Q E h => ?_) (fun cdv A outer s H vs Q E hr h => ?_)
  · obtain ⟨rfl, _⟩ := h
    rfl
  · obtain ⟨rfl, k⟩ := h
    refine ⟨_, (pss_one (ps_ret (pe_callB (cr_all rfl) (by rfl) m_all (by decide +kernel) (pa_cons (pe_lc (own := [("line", 1)]) (g := gName 1) (tt := tYes) (by rfl) sc_is_remark.nd (pi_list (pe_own O_lines_of (hr.mono (by decide)) (by rfl) (pa_cons (pv 0) pa_nil))) (blkOk_by (own := [("line", 1)]) (N := ["source", "line"]) (sc := defScope s_is_remark) (by decide +kernel)) (fun _ _ _ _ _ => (pg_name (i := 1) sc_is_remark.nd rfl (.inl rfl))) (fun _ _ _ _ _ => pts_nil) (fun _ _ _ _ _ => (pe_or (pe_own O_is_blank (hr.mono (by decide)) (by rfl) (pa_cons (pv 1) pa_nil)) (pe_one (pe_m1 PySem.F.slot_str_startswith PySem.F.type_str_startswith mt_startswith (pe_m1 PySem.F.slot_str_lstrip PySem.F.type_str_lstrip mt_lstripChars (pv 1) (pe_glob (v := .str " \t") rfl c_BLANKS ⟨_, rfl⟩)) pe_str))))) pa_nil)))), ?_⟩
    refine ⟨.str "x\n", rfl, "x\n", [[120]], [], rfl, by decide +kernel, (by intro l hl; revert hl; revert l; decide), by decide +kernel, fun H1 p s1 np ep => ⟨p, rfl, ⟨_, SqL.of ep⟩, fun L nL => ?_⟩⟩
    refine lc_list (K := K) (a := p) (xs := ((rowsOf [[120]] []).map mk).map V.str) (fun i H2 => H2 L = some (.lst (([false].take i).map V.bl)) ∧ Same H1 H2) ⟨upd_same, same_new nL⟩ (fun i H2 _ h => SqL.of (h.2 _ _ ep)) ?_ ?_
    · rintro i v H2 hv ⟨eL, s2⟩
      have ev : v = .str (mk [120]) := List.mem_singleton.mp (List.mem_of_getElem? hv)
      have hi : i = 0 := by
        have : i < 1 := (List.getElem?_eq_some_iff.mp hv).1
        omega
      subst ev hi
      refine ⟨rfl, ?_⟩
      unfold tYes
      show ite (true = true) _ _
      rw [if_pos rfl]
      refine ⟨.str (mk [120]), rfl, mk [120], rfl, by decide +kernel, _, rfl, ?_⟩
      rw [show isBlank (tl (mk [120])) = false by decide +kernel]
      refine iteF ⟨.str (mk [120]), rfl, ⟨_, rfl⟩, mk [120], " \t", rfl, rfl, by decide +kernel, ⟨_, rfl⟩, _, "#", rfl, rfl, _, eL, by decide, ?_, fun b o e => ?_⟩
      · rw [upd_same]
        exact congrArg (fun z => some (HO.lst [V.bl z])) (by decide +kernel : Txt.startswith (Txt.lstripChars (mk [120]) " \t") "#" = false)
      · rw [upd_ne (ne_of_none e nL)]
        exact s2 b o e
    · rintro H2 ⟨eL, s2⟩
      exact ⟨L, [false], rfl, SqL.of eL, k _ (s1.trans s2)⟩
def sp_Example_init (C : Addr) : Sp := fun vs H Q _ => ∃ (x dx d : Addr) (wt : Str) (er : V) (n i : Int), vs = [.ref x, .str "x\n", .str wt, er, .int n, .int i, .ref d] ∧ (wt = "" ∨ Txt.endswith wt "\n" = true) ∧ wt.length ≤ 100000 ∧ (er = .non ∨ ∃ e : Str, er = .str e ∧ Txt.endswith e "\n" = true) ∧
  H x = some (.ins C dx []) ∧ H d = some (.dK []) ∧ ∀ (H' : Hp) (fs : List (Str × V)), (∀ b o, H b = some o → b ≠ x → H' b = some o) → H' x = some (.ins C dx fs) → fs.lookup ("error" : Str) = some er → Q .non H'
theorem ok_Example_init {f : Addr} {fd : FuncData} {dvs : List V} (F : FunD K "__init__" "Example.__init__" (defArgs s_Example_init) (defBody s_Example_init) (defScope s_Example_init) dvs [] f fd) {C_Example : Addr} (T_Example : Txt_Example K mg C_Example) (O_require_flags : Own P w K mg base "require_flags" 1 ["flags"] [] (sp_require_flags)) (O_fed : Own P w K mg base "fed" 1 ["text"] [] (sp_fed)) (O_bare_of : Own P w K mg base "bare_of" 3 ["source"] [] (sp_bare_of)) (m_dict : mg "dict" = none) : FnOk P w K mg base CX0 4 f fd ["self", "source", "want", "error", "line", "indent", "options"] (sp_Example_init C_Example) := by
  refine FunD_okN F sc_Example_init (fun vs H Q E h => ?_) (fun cdv A outer s H vs Q E hr h => ?_)
  · obtain ⟨_, _, _, _, _, _, _, rfl, _⟩ := h
    rfl
  · obtain ⟨x, dx, d, wt, er, n, i, rfl, hw, lw, he, hx, hd, k⟩ := h
    refine ⟨_, (pss_cons (ps_set (i := 7) sc_Example_init.nd rfl (.inl rfl) (pe_ifExp (pt_cmpR op_isN (pv 6) pe_non (nomark _)) pe_dnewK (pv 6)))
      (pss_cons (ps_expr (pe_own O_require_flags (hr.mono (by decide)) (by rfl) (pa_cons (pv 7) pa_nil)))
      (pss_cons (ps_fld (pv 0) (pe_own O_fed (hr.mono (by decide)) (by rfl) (pa_cons (pv 1) pa_nil)) rfl)
      (pss_cons (ps_fld (pv 0) (pe_ifExp (pt_tr (K' := K) (pv 2)) (pe_own O_fed (hr.mono (by decide)) (by rfl) (pa_cons (pv 2) pa_nil)) (pv 2)) rfl)
      (pss_cons (ps_fld (pv 0) (pe_ifExp (pt_cmpR op_isN (pv 3) pe_non (nomark _)) pe_non (pe_own O_fed (hr.mono (by decide)) (by rfl) (pa_cons (pv 3) pa_nil))) rfl)
      (pss_cons (ps_fld (pv 0) (pv 4) rfl)
      (pss_cons (ps_fld (pv 0) (pv 5) rfl)
      (pss_cons (ps_fld (pv 0) (pe_callTy call_dictD (by rfl) m_dict (by decide +kernel) (pa_cons (pv 7) pa_nil)) rfl)
      (pss_one (ps_fld (pv 0) (pe_own O_bare_of (hr.mono (by decide)) (by rfl) (pa_cons (pe_fldK (K' := K) rfl (pv 0) rfl) pa_nil)) rfl)))))))))), ?_⟩
    have xd : d ≠ x := fun e => by
      rw [e, hx] at hd
      cases hd
    have tn : Txt.endswith "x\n" "\n" = true := by decide +kernel
    refine ⟨.ref d, rfl, rfl, _, rfl, ?_⟩
    rw [decide_eq_false (show V.ref d ≠ V.non from nofun)]
    refine iteF ⟨.ref d, rfl, .ref d, rfl, d, rfl, hd, fun H1 s1 => ?_⟩
    have o1 : Out x H H1 := fun b o e _ => s1 _ _ e
    refine ⟨.str "x\n", rfl, "x\n", rfl, tn, .ref x, rfl, x, C_Example, dx, [], rfl, s1 _ _ hx, T_Example.cl, T_Example.n_source, by decide, ?_⟩
    have o2 : Out x H (upd H1 x (.ins C_Example dx (putF "source" (.str "x\n") []))) := o1.put
    have e2 : (upd H1 x (.ins C_Example dx (putF "source" (.str "x\n") []))) x = some (.ins C_Example dx (putF "source" (.str "x\n") [])) := upd_same
    have l2 : (putF "source" (.str "x\n") []).length ≤ 1 := put_len (Nat.le_refl 0)
    have k2 : (putF "source" (.str "x\n") []).lookup ("source" : Str) = some (.str "x\n") := by rw [lookup_putF, if_pos rfl]
    generalize putF "source" (.str "x\n") [] = f2 at o2 e2 l2 k2 ⊢
    generalize upd H1 x (.ins C_Example dx f2) = H2 at o2 e2 ⊢
    refine ⟨.str wt, rfl, _, ⟨line_of (by omega), rfl⟩, ite_same ?_ (fun h c => ⟨.str wt, rfl, wt, rfl, ?_, c⟩) (fun h c => ⟨.str wt, rfl, c⟩)⟩
    rotate_left
    · rcases hw with e | e
      · rw [e] at h
        exact absurd h (by decide +kernel)
      · exact e
    refine ⟨.ref x, rfl, x, C_Example, dx, f2, rfl, e2, T_Example.cl, T_Example.n_want, by omega, ?_⟩
    have o3 : Out x H (upd H2 x (.ins C_Example dx (putF "want" (.str wt) f2))) := o2.put
    have e3 : (upd H2 x (.ins C_Example dx (putF "want" (.str wt) f2))) x = some (.ins C_Example dx (putF "want" (.str wt) f2)) := upd_same
    have l3 := put_len (f := "want") (v := .str wt) l2
    have k3 : (putF "want" (.str wt) f2).lookup ("source" : Str) = some (.str "x\n") := by rw [lookup_putF, if_neg (by decide +kernel), k2]
    generalize putF "want" (.str wt) f2 = f3 at o3 e3 l3 k3 ⊢
    generalize upd H2 x (.ins C_Example dx f3) = H3 at o3 e3 ⊢
    refine ⟨er, rfl, rfl, _, rfl, ite_er (er := er) ?_ (fun h => of_decide_eq_true h) (fun h e e1 e5 c => ⟨er, rfl, e, by rw [e1]; rfl, e5, c⟩) (fun h => he.resolve_left (of_decide_eq_false h))⟩
    refine ⟨.ref x, rfl, x, C_Example, dx, f3, rfl, e3, T_Example.cl, T_Example.n_error, by omega, ?_⟩
    have o4 : Out x H (upd H3 x (.ins C_Example dx (putF "error" er f3))) := o3.put
    have e4 : (upd H3 x (.ins C_Example dx (putF "error" er f3))) x = some (.ins C_Example dx (putF "error" er f3)) := upd_same
    have l4 := put_len (f := "error") (v := er) l3
    have k4 : (putF "error" er f3).lookup ("source" : Str) = some (.str "x\n") := by rw [lookup_putF, if_neg (by decide +kernel), k3]
    have r4 : (putF "error" er f3).lookup ("error" : Str) = some er := by rw [lookup_putF, if_pos rfl]
    generalize putF "error" er f3 = f4 at o4 e4 l4 k4 r4 ⊢
    generalize upd H3 x (.ins C_Example dx f4) = H4 at o4 e4 ⊢
    refine ⟨.int n, rfl, .ref x, rfl, x, C_Example, dx, f4, rfl, e4, T_Example.cl, T_Example.n_line, by omega, ?_⟩
    have o5 : Out x H (upd H4 x (.ins C_Example dx (putF "line" (.int n) f4))) := o4.put
    have e5 : (upd H4 x (.ins C_Example dx (putF "line" (.int n) f4))) x = some (.ins C_Example dx (putF "line" (.int n) f4)) := upd_same
    have l5 := put_len (f := "line") (v := .int n) l4
    have k5 : (putF "line" (.int n) f4).lookup ("source" : Str) = some (.str "x\n") := by rw [lookup_putF, if_neg (by decide +kernel), k4]
    have r5 : (putF "line" (.int n) f4).lookup ("error" : Str) = some er := by rw [lookup_putF, if_neg (by decide +kernel), r4]
    generalize putF "line" (.int n) f4 = f5 at o5 e5 l5 k5 r5 ⊢
    generalize upd H4 x (.ins C_Example dx f5) = H5 at o5 e5 ⊢
    refine ⟨.int i, rfl, .ref x, rfl, x, C_Example, dx, f5, rfl, e5, T_Example.cl, T_Example.n_indent, by omega, ?_⟩
    have o6 : Out x H (upd H5 x (.ins C_Example dx (putF "indent" (.int i) f5))) := o5.put
    have e6 : (upd H5 x (.ins C_Example dx (putF "indent" (.int i) f5))) x = some (.ins C_Example dx (putF "indent" (.int i) f5)) := upd_same
    have l6 := put_len (f := "indent") (v := .int i) l5
    have k6 : (putF "indent" (.int i) f5).lookup ("source" : Str) = some (.str "x\n") := by rw [lookup_putF, if_neg (by decide +kernel), k5]
    have r6 : (putF "indent" (.int i) f5).lookup ("error" : Str) = some er := by rw [lookup_putF, if_neg (by decide +kernel), r5]
    generalize putF "indent" (.int i) f5 = f6 at o6 e6 l6 k6 r6 ⊢
    generalize upd H5 x (.ins C_Example dx f6) = H6 at o6 e6 ⊢
    refine ⟨.ref d, rfl, d, [], rfl, Rd.of (o6 _ _ hd xd), fun p np => ⟨.ref x, rfl, x, C_Example, dx, f6, rfl, same_new np _ _ e6, T_Example.cl, T_Example.n_options, by omega, ?_⟩⟩
    have o7 : Out x H (upd (upd H6 p (.dK [])) x (.ins C_Example dx (putF "options" (.ref p) f6))) := (o6.same (same_new np)).put
    have e7 : (upd (upd H6 p (.dK [])) x (.ins C_Example dx (putF "options" (.ref p) f6))) x = some (.ins C_Example dx (putF "options" (.ref p) f6)) := upd_same
    have l7 := put_len (f := "options") (v := .ref p) l6
    have k7 : (putF "options" (.ref p) f6).lookup ("source" : Str) = some (.str "x\n") := by rw [lookup_putF, if_neg (by decide +kernel), k6]
    have r7 : (putF "options" (.ref p) f6).lookup ("error" : Str) = some er := by rw [lookup_putF, if_neg (by decide +kernel), r6]
    generalize putF "options" (.ref p) f6 = f7 at o7 e7 l7 k7 r7 ⊢
    generalize upd (upd H6 p (.dK [])) x (.ins C_Example dx f7) = H7 at o7 e7 ⊢
    refine ⟨.ref x, rfl, x, C_Example, dx, f7, _, rfl, e7, T_Example.cl, T_Example.n_source, k7, rfl, fun H8 s8 => ?_⟩
    have o8 := o7.same s8
    have e8 := s8 _ _ e7
    refine ⟨.ref x, rfl, x, C_Example, dx, f7, rfl, e8, T_Example.cl, T_Example.n_bare, by omega, k _ (putF "bare" (.str "x\n") f7) o8.put upd_same ?_⟩
    rw [lookup_putF, if_neg (by decide +kernel), r7]
def sp_is_word_sign : Sp := fun vs H Q _ => ∃ c : Nat, vs = [.str ⟨#[c]⟩] ∧ Q (.bl (c == 95 || Txt.isalnum ⟨#[c]⟩)) H
theorem ok_is_word_sign {f : Addr} {fd : FuncData} {dvs : List V} (F : Fn K "is_word_sign" s_is_word_sign dvs f fd) : FnOk P w K mg base CX0 1 f fd ["sign"] (sp_is_word_sign) := by
  refine Fn.okN F sc_is_word_sign (fun vs H Q E h => ?_) (fun cdv A outer s H vs Q E hr h => ?_)
  · obtain ⟨_, rfl, _⟩ := h
    rfl
  · obtain ⟨c, rfl, k⟩ := h
    refine ⟨_, (pss_one (ps_ret (pe_or (pe_cmpR op_eq (pv 0) pe_str (nomark _)) (pe_one (pe_m0 PySem.F.slot_str_isalnum PySem.F.type_str_isalnum mt_isalnum (pv 0)))))), ?_⟩
    refine ⟨.str ⟨#[c]⟩, rfl, rfl, _, rfl, ?_⟩
    rw [us_dec]
    cases h : (c == 95) with
    | true =>
      rw [h, Bool.true_or] at k
      exact iteT k
    | false =>
      rw [h, Bool.false_or] at k
      exact iteF ⟨.str ⟨#[c]⟩, rfl, ⟨_, rfl⟩, _, rfl, rfl, trivial, k⟩
def sp_error_of : Sp := fun vs H Q _ => ∃ (x : Str) (init : List (List Nat)) (last : List Nat), vs = [.str x] ∧ tl x = joinL [10] (init ++ [last]) ∧ Rows10 (init ++ [last]) ∧ x.length ≤ 10000 ∧ ∀ H', Same H H' → Q (optV (errP (keptOf init last))) H'
theorem ok_error_of {f : Addr} {fd : FuncData} {dvs : List V} (F : Fn K "error_of" s_error_of dvs f fd) (O_kept_lines : Own P w K mg base "kept_lines" 1 ["text"] [] (sp_kept_lines)) (O_is_word_sign : Own P w K mg base "is_word_sign" 1 ["sign"] [] (sp_is_word_sign)) (m_len : mg "len" = none) (m_range : mg "range" = none) {a_HEADERS : Addr} (c_HEADERS : mg "HEADERS" = some (.ref a_HEADERS)) (q_HEADERS : ∀ H, SqT K H a_HEADERS (v_HEADERS.map V.str)) : FnOk P w K mg base CX0 2 f fd ["want"] (sp_error_of) := by
  refine Fn.okN F sc_error_of (fun vs H Q E h => ?_) (fun cdv A outer s H vs Q E hr h => ?_)
  · obtain ⟨_, _, _, rfl, _⟩ := h
    rfl
  · obtain ⟨x, init, last, rfl, ex, h10, hx, k⟩ := h
    refine ⟨_, (pss_cons (ps_set (i := 1) sc_error_of.nd rfl (.inl rfl) (pe_own O_kept_lines (hr.mono (by decide)) (by rfl) (pa_cons (pv 0) pa_nil)))
      (pss_cons (ps_if (PW.pt (pw_or (pt_not (pt_tr (K' := K) (pv 1))) (pw_or1 (pt_cmpR op_notIn_seq (pe_m1 PySem.F.slot_str_rstrip PySem.F.type_str_rstrip mt_rstripChars (pe_m1 PySem.F.slot_str_removesuffix PySem.F.type_str_removesuffix mt_removesuffix (pe_ix ix_list (pv 1) pe_int (fun _ _ => rfl)) pe_str) pe_str) (pe_glob (v := .ref a_HEADERS) rfl c_HEADERS rfl) rfl))))
          (pss_one (ps_ret pe_non))
          pss_nil)
      (pss_cons (ps_for PassesOwn.never rfl (pi_range2 rfl m_range (pa_cons pe_int (pa_cons (pe_callB call_len_seq (by rfl) m_len PySem.boot_len (pa_cons (pv 1) pa_nil)) pa_nil))) (pg_name (i := 2) sc_error_of.nd rfl (.inl rfl))
          (pss_one (ps_if (pt_val (pe_own O_is_word_sign (hr.mono (by decide)) (by rfl) (pa_cons (pe_ix ix_str (pe_ix ix_list (pv 1) (pv 2) (fun _ _ => rfl)) pe_int (fun _ _ => rfl)) pa_nil)))
                (pss_one (ps_ret (pe_m1 PySem.F.slot_str_join PySem.F.type_str_join mt_join pe_str (pe_slice sl_list (pv 1) (po_some (pv 2)) po_none))))
                pss_nil)))
      (pss_one (ps_ret pe_non))))), ?_⟩
    have lt : (tl x).length ≤ 10000 := by rw [← len_tl]; exact hx
    have jp := join_parts (init ++ [last])
    have ks := kept_sum init last
    rw [← ex] at jp ks
    rw [List.length_append] at jp
    have hne := kept_ne init last
    have kn : (keptOf init last).length ≤ 10002 := by
      have : [last].length = 1 := rfl
      unfold keptOf ifAny
      rw [List.length_append, List.length_map]
      split
      · show _ + 0 ≤ _
        omega
      · show _ + 1 ≤ _
        omega
    refine ⟨.str x, rfl, x, init, last, rfl, ex, h10, hx, fun H1 p s1 np ep => ?_⟩
    generalize keptOf init last = L at ks hne kn ep k
    cases L with
    | nil => exact ⟨.ref p, rfl, _, .inl ⟨[], SqL.of ep, rfl⟩, iteT (iteT (k _ s1))⟩
    | cons h r =>
      have hh : h.length ≤ 10000 := by
        have : ((h :: r).map (·.length)).sum = h.length + (r.map (·.length)).sum := rfl
        omega
      have hrl : ∀ l ∈ r, l.length ≤ 10000 := fun l hl => by
        have e1 : ((h :: r).map (·.length)).sum = h.length + (r.map (·.length)).sum := rfl
        have e2 : l.length ≤ (r.map (·.length)).sum := le_sum hl
        omega
      have eh : inV (.str (Txt.rstripChars (Txt.removesuffix (mk h) "\n") " ")) (v_HEADERS.map V.str) = isHead (noNl h) := by
        unfold isHead noNl
        rw [mk_tl']
      refine ⟨.ref p, rfl, _, .inl ⟨_, SqL.of ep, rfl⟩, iteF ⟨.ref p, rfl, p, _, 0, .str (mk h), rfl, rfl, SqL.of ep, atI_nat (j := 0) rfl, ⟨_, rfl⟩, mk h, "\n", rfl, rfl, by rw [mk_len]; exact line_of (by omega), ⟨_, rfl⟩, _, " ", rfl, rfl, ?_, a_HEADERS, _, rfl, .inr (q_HEADERS _), rfl, rfl, _, rfl, ?_⟩⟩
      · have : (Txt.removesuffix (mk h) "\n").length ≤ (mk h).length := rsuf_len _ _
        rw [mk_len] at this
        exact line_of (by omega)
      rw [eh]
      unfold errP at k
      dsimp only at k
      cases hd : isHead (noNl h) with
      | false =>
        rw [hd] at k
        exact iteT (k _ s1)
      | true =>
        rw [hd, if_pos rfl] at k
        have hlen : (((h :: r).map mk).map V.str).length = r.length + 1 := by rw [List.length_map, List.length_map]; rfl
        rw [List.length_cons] at kn
        have hne2 : ∀ l ∈ r, l ≠ [] := fun l hl => hne l (List.mem_cons_of_mem _ hl)
        refine iteF ⟨.ref p, rfl, p, _, rfl, .inl (SqL.of ep), ?_⟩
        rw [hlen]
        refine ⟨1, ((r.length + 1 : Nat) : Int), rfl, ⟨by decide, by decide, by omega, by omega⟩, for_range (lo := 1) (n := (((r.length + 1 : Nat) : Int) - 1).toNat) (fun i σ H2 => ∃ v2, σ = [some (.str x), some (.ref p), v2] ∧ Same H1 H2 ∧ ∀ j l, j < i → r[j]? = some l → wordS l = false) ⟨_, rfl, fun _ _ e => e, fun j l a _ => absurd a (Nat.not_lt_zero _)⟩ ?_ ?_⟩
        · rintro i σ H2 hi ⟨v2, rfl, s2, hb⟩
          have hir : i < r.length := by omega
          have ei : (1 : Int) + (i : Nat) = ((i + 1 : Nat) : Int) := by omega
          have hl : r[i]? = some r[i] := List.getElem?_eq_getElem hir
          have hm := List.mem_of_getElem? hl
          have hg : (((h :: r).map mk).map V.str)[i + 1]? = some (.str (mk r[i])) := by
            rw [List.getElem?_map, List.getElem?_map, List.getElem?_cons_succ, hl]
            rfl
          have hll := hrl _ hm
          have hn := hne2 _ hm
          generalize r[i] = l at hl hm hg hll hn
          rw [ei]
          cases l with
          | nil => exact absurd rfl hn
          | cons c l' =>
            refine ⟨.ref p, rfl, .int ((i + 1 : Nat) : Int), rfl, p, _, _, .str (mk (c :: l')), rfl, rfl, SqL.of (s2 _ _ ep), atI_nat hg, mk (c :: l'), 0, c, rfl, rfl, by rw [mk_len]; exact line_of (by omega), atI_nat (j := 0) rfl, c, rfl, _, rfl, ?_⟩
            show if wordS (c :: l') = true then _ else _
            cases hw : wordS (c :: l') with
            | false =>
              refine iteF ⟨_, rfl, s2, fun j l hj hjl => ?_⟩
              rcases Nat.lt_or_ge j i with a | a
              · exact hb j l a hjl
              · have : j = i := by omega
                rw [this, hl] at hjl
                cases hjl
                exact hw
            | true =>
              have dw : (r.dropWhile fun l => !wordS l) = r.drop i := dropWhile_at hl (by rw [hw]; rfl) fun j l' hj hjl => by rw [hb j l' hj hjl]; rfl
              have dc : r.drop i = (c :: l') :: r.drop (i + 1) := by
                rw [List.drop_eq_getElem_cons hir]
                rw [List.getElem?_eq_getElem hir] at hl
                rw [Option.some.inj hl]
              rw [dw] at k
              have ev : optV (flatO (r.drop i)) = .str (mk (joinL [] (r.drop i))) := by rw [dc]; rfl
              rw [ev] at k
              refine iteT ⟨⟨_, rfl⟩, .ref p, rfl, .int ((i + 1 : Nat) : Int), rfl, _, rfl, p, _, rfl, SqL.of (s2 _ _ ep), fun q nq => ?_⟩
              have ec : cutV (((h :: r).map mk).map V.str) (some ((i + 1 : Nat) : Int)) none = ((r.drop i).map mk).map V.str := by
                rw [cutV_drop _ _ (by rw [hlen]; omega), List.map_drop, List.map_drop]
                rfl
              have sq := same_new (o := .lst (((r.drop i).map mk).map V.str)) nq
              rw [ec]
              refine ⟨"", q, (r.drop i).map mk, rfl, rfl, .inl (SqL.of upd_same), ?_, ?_⟩
              · have a1 := drop_sum r i
                have a2 : ((h :: r).map (·.length)).sum = h.length + (r.map (·.length)).sum := rfl
                have e0 : ("" : Str).length = 0 := by decide +kernel
                rw [e0, Nat.mul_zero, List.map_map]
                show ((r.drop i).map (·.length)).sum + 0 ≤ _
                omega
              · have e0 : ("" : Str) = mk [] := ext_tl (by decide +kernel)
                rw [e0, join_mk]
                exact k _ (s1.trans (s2.trans sq))
        · rintro σ H2 ⟨v2, rfl, s2, hb⟩
          rw [dropWhile_none (fun l hl => ?_)] at k
          · exact k _ (s1.trans s2)
          · obtain ⟨j, hj, e⟩ := List.getElem_of_mem hl
            rw [hb j l (by omega) (by rw [List.getElem?_eq_getElem hj, e])]
            rfl
def sp_piece_at (C : Addr) : Sp := fun vs H Q _ => ∃ (p t : Addr) (ws : List (List Nat)), vs = [.ref p, .ref t] ∧ H p = some (rowsV (X0 :: ws)) ∧ H t = some (.tup [.int 0, .int 1, .int ((ws.length + 1 : Nat) : Int)]) ∧ Short (X0 :: ws) ∧ Rows10 ws ∧ (joinL [10] ws).length ≤ 9000 ∧
  ∀ (H' : Hp) (q dx : Addr) (fs : List (Str × V)), Same H H' → H q = none → H' q = some (.ins C dx fs) → fs.lookup ("error" : Str) = some (optV (errP (ws.map (· ++ [10])))) → Q (.ref q) H'
theorem ok_piece_at {f : Addr} {fd : FuncData} {dvs : List V} (F : Fn K "piece_at" s_piece_at dvs f fd) (O_refuse_wrong_lines : Own P w K mg base "refuse_wrong_lines" 2 ["lines", "cut"] [] (sp_refuse_wrong_lines)) (O_indent_of : Own P w K mg base "indent_of" 1 ["line"] [] (sp_indent_of)) (O_options_of : Own P w K mg base "options_of" 3 ["source", "number"] [] (sp_options_of)) (O_is_remark : Own P w K mg base "is_remark" 3 ["source"] [] (sp_is_remark)) (O_Example_init : OwnC P w K mg base "Example" C_Example 4 ["self", "source", "want", "error", "line", "indent", "options"] ["error", "line", "indent", "options"] 2 (sp_Example_init C_Example)) (O_error_of : Own P w K mg base "error_of" 2 ["want"] [] (sp_error_of)) {t_AHEAD : Tok} (c_AHEAD : mg "AHEAD" = some (.int 4 t_AHEAD)) : FnOk P w K mg base CX0 6 f fd ["lines", "cut"] (sp_piece_at C_Example) := by
  refine Fn.okN F sc_piece_at (fun vs H Q E h => ?_) (fun cdv A outer s H vs Q E hr h => ?_)
  · obtain ⟨_, _, _, rfl, _⟩ := h
    rfl
  · obtain ⟨p, t, ws, rfl, hp, ht, hs, h10, hl, k⟩ := h
    refine ⟨_, (pss_cons (ps_expr (pe_own O_refuse_wrong_lines (hr.mono (by decide)) (by rfl) (pa_cons (pv 0) (pa_cons (pv 1) pa_nil))))
      (pss_cons (ps_asg (pv 1) (pg_tup rfl (pgs_cons (pg_name (i := 2) sc_piece_at.nd rfl (.inl rfl)) (pgs_cons (pg_name (i := 3) sc_piece_at.nd rfl (.inl rfl)) (pgs_cons (pg_name (i := 4) sc_piece_at.nd rfl (.inl rfl)) pgs_nil)))))
      (pss_cons (ps_set (i := 5) sc_piece_at.nd rfl (.inr rfl) (pe_own O_indent_of (hr.mono (by decide)) (by rfl) (pa_cons (pe_ix ix_list (pv 0) (pv 2) (fun _ _ => rfl)) pa_nil)))
      (pss_cons (ps_set (i := 6) sc_piece_at.nd rfl (.inl rfl) (pe_m1 PySem.F.slot_str_join PySem.F.type_str_join mt_join pe_str (pe_lc (own := [("line", 9)]) (g := gName 9) (tt := tYes) (by rfl) sc_piece_at.nd (pi_list (pe_slice sl_list (pv 0) (po_some (pv 2)) (po_some (pv 3)))) (blkOk_by (own := [("line", 9)]) (N := ["lines", "cut", "start", "middle", "end", "indent", "source", "want", "options", "line"]) (sc := defScope s_piece_at) (by decide +kernel)) (fun _ _ _ _ _ => (pg_name (i := 9) sc_piece_at.nd rfl (.inl rfl))) (fun _ _ _ _ _ => pts_nil) (fun _ _ _ _ _ => (pe_op op_add_str (pe_slice sl_str (pv 9) (po_some (pe_op op_add (pv 5) (pe_glob (v := .int 4) rfl c_AHEAD ⟨_, rfl⟩))) po_none) pe_str)))))
      (pss_cons (ps_set (i := 7) sc_piece_at.nd rfl (.inl rfl) (pe_m1 PySem.F.slot_str_join PySem.F.type_str_join mt_join pe_str (pe_lc (own := [("line", 9)]) (g := gName 9) (tt := tYes) (by rfl) sc_piece_at.nd (pi_list (pe_slice sl_list (pv 0) (po_some (pv 3)) (po_some (pv 4)))) (blkOk_by (own := [("line", 9)]) (N := ["lines", "cut", "start", "middle", "end", "indent", "source", "want", "options", "line"]) (sc := defScope s_piece_at) (by decide +kernel)) (fun _ _ _ _ _ => (pg_name (i := 9) sc_piece_at.nd rfl (.inl rfl))) (fun _ _ _ _ _ => pts_nil) (fun _ _ _ _ _ => (pe_op op_add_str (pe_slice sl_str (pv 9) (po_some (pv 5)) po_none) pe_str)))))
      (pss_cons (ps_set (i := 8) sc_piece_at.nd rfl (.inl rfl) (pe_own O_options_of (hr.mono (by decide)) (by rfl) (pa_cons (pv 6) (pa_cons (pe_op op_add (pv 2) pe_int) pa_nil))))
      (pss_cons (ps_if (pt_not (pt_val (pe_own O_is_remark (hr.mono (by decide)) (by rfl) (pa_cons (pv 6) pa_nil))))
          (pss_one (ps_ret (pe_ownC O_Example_init (hr.mono (by decide)) (by rfl) (pa_cons (pv 6) (pa_cons (pv 7) pa_nil)) (pk_cons (pe_own O_error_of (hr.mono (by decide)) (by rfl) (pa_cons (pv 7) pa_nil)) (pk_cons (pe_op op_add (pv 2) pe_int) (pk_cons (pv 5) (pk_cons (pv 8) pk_nil)))))))
          pss_nil)
      (pss_cons ps_never
      (pss_one ps_never))))))))), ?_⟩
    have e0 : lead (tl (mk X0)) = 0 := by decide +kernel
    have h1 := hs.1
    rw [List.length_cons] at h1
    have hlen : (((X0 :: ws).map mk).map V.str).length = ws.length + 1 := by rw [List.length_map, List.length_map]; rfl
    refine ⟨.ref p, rfl, .ref t, rfl, p, t, ws, rfl, hp, ht, hs, fun H1 s1 => ⟨.ref t, rfl, t, _, rfl, SqT.of (s1 _ _ ht), rfl, _, _, rfl, _, _, rfl, _, _, rfl, rfl, .ref p, rfl, .int 0, rfl, p, _, 0, .str (mk X0), rfl, rfl, SqL.of (s1 _ _ hp), atI_nat (j := 0) rfl, mk X0, rfl, by decide, ?_⟩⟩
    rw [e0]
    have ec1 : cutV (((X0 :: ws).map mk).map V.str) (some ((0 : Nat) : Int)) (some ((1 : Nat) : Int)) = [.str (mk X0)] := by
      rw [cutV_seg _ 0 1 (Nat.zero_le _) (by rw [hlen]; omega)]
      rfl
    have ec2 : cutV (((X0 :: ws).map mk).map V.str) (some ((1 : Nat) : Int)) (some ((ws.length + 1 : Nat) : Int)) = (ws.map mk).map V.str := by
      rw [cutV_seg _ 1 (ws.length + 1) (by omega) (by rw [hlen]; exact Nat.le_refl _)]
      show ((ws.map mk).map V.str).take (ws.length + 1 - 1) = _
      rw [Nat.add_sub_cancel]
      exact List.take_of_length_le (by rw [List.length_map, List.length_map]; exact Nat.le_refl _)
    refine ⟨⟨_, rfl⟩, .ref p, rfl, .int 0, rfl, _, rfl, .int 1, rfl, _, rfl, p, _, rfl, SqL.of (s1 _ _ hp), fun a na => ?_⟩
    rw [show cutV (((X0 :: ws).map mk).map V.str) (some (0 : Int)) (some (1 : Int)) = [.str (mk X0)] from ec1]
    have sa := same_new (o := .lst [.str (mk X0)]) na
    refine ⟨a, rfl, ⟨_, SqL.of upd_same⟩, fun L nL => lc_list (K := K) (a := a) (xs := [.str (mk X0)]) (fun i H3 => H3 L = some (.lst ((([X0].take i).map fun _ => mk [120, 10]).map V.str)) ∧ Same (upd H1 a (.lst [.str (mk X0)])) H3) ⟨upd_same, same_new nL⟩ (fun i H3 _ h3 => SqL.of (h3.2 _ _ upd_same)) ?_ ?_⟩
    · rintro i y H3 hi ⟨eL, s3⟩
      have ev : y = .str (mk X0) := List.mem_singleton.mp (List.mem_of_getElem? hi)
      have hi0 : i = 0 := by
        have : i < 1 := (List.getElem?_eq_some_iff.mp hi).1
        omega
      subst ev hi0
      refine ⟨rfl, ?_⟩
      unfold tYes
      show ite (true = true) _ _
      rw [if_pos rfl]
      refine ⟨.str (mk X0), rfl, .int (0 : Nat), rfl, _, _, rfl, rfl, _, rfl, mk X0, rfl, by decide, _, _, rfl, rfl, by decide +kernel, _, eL, by decide, ?_, fun b o e => ?_⟩
      · rw [upd_same]
        exact congrArg (fun v => some (HO.lst [V.str v])) (by decide +kernel : cutS (mk X0) (some (((0 : Nat) : Int) + 4)) none ++ "\n" = mk [120, 10])
      · rw [upd_ne (ne_of_none e nL)]
        exact s3 b o e
    rintro H3 ⟨eL, s3⟩
    refine ⟨"", L, [mk [120, 10]], rfl, rfl, .inl (SqL.of eL), by decide +kernel, ?_⟩
    rw [show Txt.join "" [mk [120, 10]] = "x\n" by decide +kernel]
    have s13 : Same H H3 := s1.trans (sa.trans s3)
    clear s3 sa eL na nL
    refine ⟨⟨_, rfl⟩, .ref p, rfl, .int 1, rfl, _, rfl, .int ((ws.length + 1 : Nat) : Int), rfl, _, rfl, p, _, rfl, SqL.of (s13 _ _ hp), fun b nb => ?_⟩
    rw [show cutV (((X0 :: ws).map mk).map V.str) (some (1 : Int)) (some ((ws.length + 1 : Nat) : Int)) = (ws.map mk).map V.str from ec2]
    have sb := same_new (o := .lst ((ws.map mk).map V.str)) nb
    refine ⟨b, rfl, ⟨_, SqL.of upd_same⟩, fun M nM => lc_list (K := K) (a := b) (xs := (ws.map mk).map V.str) (fun i H4 => H4 M = some (rowsV ((ws.take i).map (· ++ [10]))) ∧ Same (upd H3 b (.lst ((ws.map mk).map V.str))) H4) ⟨upd_same, same_new nM⟩ (fun i H4 _ h4 => SqL.of (h4.2 _ _ upd_same)) ?_ ?_⟩
    · rintro i v H4 hv ⟨eM, s4⟩
      obtain ⟨z, rfl, hz⟩ := str_at hv
      rw [List.getElem?_map] at hz
      obtain ⟨l, hl2, rfl⟩ := Option.map_eq_some_iff.mp hz
      have gl := hs.2 l (List.mem_cons_of_mem _ (List.mem_of_getElem? hl2))
      have l1 : ("\n" : Str).length = 1 := rfl
      have ecl : cutS (mk l) (some ((0 : Nat) : Int)) none = mk l := ext_tl (by rw [cutS_from]; rfl)
      refine ⟨rfl, ?_⟩
      unfold tYes
      show ite (true = true) _ _
      rw [if_pos rfl]
      refine ⟨.str (mk l), rfl, .int (0 : Nat), rfl, _, rfl, mk l, rfl, by rw [mk_len]; exact line_of (by omega), _, _, rfl, rfl, ?_, _, eM, ?_, ?_, fun b o e => ?_⟩
      · rw [ecl, mk_len, l1]
        exact line_of (by omega)
      · rw [List.length_map, List.length_map, List.length_map, List.length_take]
        exact Nat.lt_of_le_of_lt (show min i ws.length ≤ 1000 by omega) (by decide)
      · rw [upd_same, List.take_add_one, hl2, List.map_append]
        unfold rowsV
        rw [List.map_append, List.map_append, ecl]
        exact congrArg (fun v => some (HO.lst ((((ws.take i).map (· ++ [10])).map mk).map V.str ++ [v]))) (congrArg V.str (ext_tl (by rw [tl_append]; rfl)))
      · rw [upd_ne (ne_of_none e nM)]
        exact s4 b o e
    rintro H4 ⟨eM, s4⟩
    rw [List.length_map, List.length_map, List.take_length] at eM
    have fl := flat_len ws
    have jl : (ws.map (·.length)).sum + ws.length ≤ 9001 := by
      cases ws with
      | nil => decide
      | cons a r =>
        have := joinL_len [10] (ps := a :: r) (by simp)
        have e1 : ([10] : List Nat).length = 1 := rfl
        rw [e1] at this
        omega
    refine ⟨"", M, (ws.map (· ++ [10])).map mk, rfl, rfl, .inl (SqL.of eM), ?_, ?_⟩
    · have e0 : ("" : Str).length = 0 := by decide +kernel
      rw [e0, Nat.mul_zero, List.map_map]
      show ((ws.map (· ++ [10])).map (·.length)).sum + 0 ≤ _
      rw [sum_fed]
      omega
    have e00 : ("" : Str) = mk [] := ext_tl (by decide +kernel)
    rw [show Txt.join "" ((ws.map (· ++ [10])).map mk) = mk (joinL [] (ws.map (· ++ [10]))) by rw [e00, join_mk]]
    have s14 : Same H H4 := s13.trans (sb.trans s4)
    have kp : keptOf ws [] = ws.map (· ++ [10]) := by
      show ws.map (· ++ [10]) ++ [] = _
      rw [List.append_nil]
    clear s4 sb eM nb nM
    refine ⟨.str "x\n", rfl, .int 0, rfl, _, _, rfl, rfl, _, rfl, fun H5 o s5 no eo => ⟨.str "x\n", rfl, rfl, fun H6 s6 => ⟨false, rfl, iteT ⟨.str "x\n", rfl, .str (mk (joinL [] (ws.map (· ++ [10])))), rfl, .str (mk (joinL [] (ws.map (· ++ [10])))), rfl, mk (joinL [] (ws.map (· ++ [10]))), ws, [], rfl, (join_ten ws).symm, ?_, ?_, fun H7 s7 => ?_⟩⟩⟩⟩
    · rintro l hl
      rcases List.mem_append.mp hl with h | h
      · exact h10 l h
      · rw [List.mem_singleton.mp h]
        exact nofun
    · rw [mk_len, fl]
      omega
    rw [kp]
    have s17 := s14.trans (s5.trans (s6.trans s7))
    refine ⟨.int 0, rfl, _, _, rfl, rfl, .int (0 : Nat), rfl, .ref o, rfl, rfl, rfl, fun x dx nx ndx ne => ⟨x, dx, o, mk (joinL [] (ws.map (· ++ [10]))), optV (errP (ws.map (· ++ [10]))), _, _, rfl, ?_, ?_, err_ten ws, upd_same, ?_, fun H9 fs out e9 lk => ⟨rfl, k H9 x dx fs (fun b' o' e' => ?_) (s17.free nx) e9 lk⟩⟩⟩
    · cases ws with
      | nil => exact .inl (by decide +kernel)
      | cons a r =>
        obtain ⟨m, e⟩ := flat_ten (a :: r) (by simp)
        rw [e]
        exact .inr (ends_ten m)
    · rw [mk_len, fl]
      omega
    · have eo2 := s7 _ _ (s6 _ _ eo)
      rw [upd_ne (ne_of_none eo2 nx), upd_ne (ne_of_none eo2 ndx)]
      exact eo2
    · have e2 := s17 _ _ e'
      refine out _ _ ?_ (ne_of_none e2 nx)
      rw [upd_ne (ne_of_none e2 nx), upd_ne (ne_of_none e2 ndx)]
      exact e2
/-- a text of one example -/
structure One (x : Str) (ws : List (List Nat)) : Prop where
  eq : tl x = joinL [10] (X0 :: ws)
  ne : ws ≠ []
  ok : ∀ l ∈ ws, ∀ c ∈ l, c ≠ 9 ∧ c ≠ 10 ∧ c ≠ 13
  body : Body ws
  first : ∀ l, ws[0]? = some l → bg (mk l) "..." = false
  len : (tl x).length ≤ 9000
  cnt : ws.length ≤ 900
def sp_parsed (C : Addr) : Sp := fun vs H Q _ => ∃ (x : Str) (ws : List (List Nat)), vs = [.str x] ∧ One x ws ∧
  ∀ (H' : Hp) (L q dx : Addr) (fs : List (Str × V)), Same H H' → H L = none → H' L = some (.lst [.ref q]) → H' q = some (.ins C dx fs) → fs.lookup ("error" : Str) = some (optV (errP (ws.map (· ++ [10])))) → Q (.ref L) H'
theorem ok_parsed {f : Addr} {fd : FuncData} {dvs : List V} (F : Fn K "parsed" s_parsed dvs f fd) {C_Example : Addr} (T_Example : Txt_Example K mg C_Example) (O_levelled : Own P w K mg base "levelled" 2 ["text"] [] (sp_levelled)) (O_kept_lines : Own P w K mg base "kept_lines" 1 ["text"] [] (sp_kept_lines)) (O_lines_of : Own P w K mg base "lines_of" 2 ["text"] [] (sp_lines_of)) (O_cuts_of : Own P w K mg base "cuts_of" 3 ["lines"] [] (sp_cuts_of)) (O_piece_at : Own P w K mg base "piece_at" 6 ["lines", "cut"] [] (sp_piece_at C_Example)) (m_len : mg "len" = none) : FnOk P w K mg base CX0 7 f fd ["text"] (sp_parsed C_Example) := by
  refine Fn.okN F sc_parsed (fun vs H Q E h => ?_) (fun cdv A outer s H vs Q E hr h => ?_)
  · obtain ⟨_, _, rfl, _⟩ := h
    rfl
  · obtain ⟨x, ws, rfl, on, k⟩ := h
    refine ⟨_, (pss_cons (ps_set (i := 1) sc_parsed.nd rfl (.inl rfl) (pe_own O_levelled (hr.mono (by decide)) (by rfl) (pa_cons (pv 0) pa_nil)))
      (pss_cons (ps_set (i := 2) sc_parsed.nd rfl (.inl rfl) (pe_own O_kept_lines (hr.mono (by decide)) (by rfl) (pa_cons (pv 1) pa_nil)))
      (pss_cons (ps_set (i := 3) sc_parsed.nd rfl (.inl rfl) (pe_own O_lines_of (hr.mono (by decide)) (by rfl) (pa_cons (pv 1) pa_nil)))
      (pss_cons (ps_set (i := 4) sc_parsed.nd rfl (.inl rfl) (pe_lst pa_nil))
      (pss_cons (ps_set (i := 5) sc_parsed.nd rfl (.inl rfl) pe_int)
      (pss_cons (ps_for PassesOwn.never rfl (pi_list (pe_own O_cuts_of (hr.mono (by decide)) (by rfl) (pa_cons (pv 3) pa_nil))) (pg_name (i := 6) sc_parsed.nd rfl (.inl rfl))
          (pss_cut (ps_if (pt_cmpR op_lt (pv 5) (pe_ix ix_tup (pv 6) pe_int (fun _ _ => rfl)) (nomark _)) pss_never pss_nil)
            (pss_cons (ps_expr (pe_bm PySem.F.plainAttrs_list PySem.F.slot_list_append PySem.F.type_list_append mt_append (pv 4) (pa_cons (pe_own O_piece_at (hr.mono (by decide)) (by rfl) (pa_cons (pv 3) (pa_cons (pv 6) pa_nil))) pa_nil)))
            (pss_one (ps_set (i := 5) sc_parsed.nd rfl (.inl rfl) (pe_ix ix_tup (pv 6) pe_int (fun _ _ => rfl)))))))
      (pss_cut (ps_if (pt_cmpR op_lt (pv 5) (pe_callB call_len_seq (by rfl) m_len PySem.boot_len (pa_cons (pv 2) pa_nil)) (nomark _)) pss_never pss_nil)
      (pss_one (ps_ret (pv 4)))))))))), ?_⟩
    have x0 : ∀ c ∈ X0, c ≠ 9 ∧ c ≠ 10 ∧ c ≠ 13 := by decide
    have ok : ∀ l ∈ X0 :: ws, ∀ c ∈ l, c ≠ 9 ∧ c ≠ 10 ∧ c ≠ 13 := fun l hl c hc => by
      rcases List.mem_cons.mp hl with rfl | h
      · exact x0 c hc
      · exact on.ok l h c hc
    have jp := join_parts (X0 :: ws)
    rw [← on.eq] at jp
    have lx := on.len
    have ee : (X0 :: ws).map (Mun.expT 8 0) = X0 :: ws := (List.map_congr_left fun l hl => Mun.exp_none l 0 fun c hc => (ok l hl c hc).1).trans (List.map_id _)
    have el : leastN (leads (X0 :: ws)) = 0 := by
      have : leads (X0 :: ws) = 0 :: leads ws := rfl
      rw [this]
      exact Nat.le_zero.mp (foldl_min (leads ws) 0).1
    have ez : mk (joinL [10] (levW ((X0 :: ws).map (Mun.expT 8 0)))) = x := by
      rw [ee]
      unfold levW
      rw [el, show (X0 :: ws).map (fun l => l.drop 0) = X0 :: ws from List.map_id _, ← on.eq, mk_tl']
    have hs : Short (X0 :: ws) := ⟨by rw [List.length_cons]; have := on.cnt; omega, fun l hl => by
      have := jp.2 l hl
      omega⟩
    have h10 : Rows10 (X0 :: ws) := fun l hl h => (ok l hl 10 h).2.1 rfl
    have b0 : bg (mk X0) ">>>" = true := by decide +kernel
    have hl : (joinL [10] ws).length ≤ 9000 := by
      have := congrArg List.length on.eq
      rw [joinL_more _ _ on.ne, List.length_append, List.length_append] at this
      omega
    obtain ⟨init, last, ei, hlast⟩ : ∃ init last, X0 :: ws = init ++ [last] ∧ last ∈ ws := ⟨X0 :: ws.dropLast, ws.getLast on.ne, by rw [List.cons_append, List.dropLast_concat_getLast], List.getLast_mem _⟩
    have nl : last.isEmpty = false := by
      cases last with
      | nil => exact absurd (on.body _ hlast).1 (by decide)
      | cons _ _ => rfl
    have er : rowsOf init last = X0 :: ws := by
      unfold rowsOf ifAny
      rw [nl, if_neg Bool.false_ne_true, ei]
    have ek : (keptOf init last).length = ws.length + 1 := by
      have := congrArg List.length ei
      rw [List.length_append] at this
      unfold keptOf ifAny
      rw [nl, if_neg Bool.false_ne_true, List.length_append, List.length_map, ← this]
      rfl
    have xe : tl x = joinL [10] (init ++ [last]) := by rw [← ei]; exact on.eq
    have h10' : Rows10 (init ++ [last]) := by rw [← ei]; exact h10
    have xl : x.length ≤ 10000 := by rw [len_tl]; omega
    refine ⟨.str x, rfl, x, X0 :: ws, rfl, on.eq, nofun, fun l hl c hc => (ok l hl c hc).2, by omega, fun H1 s1 => ?_⟩
    rw [ez]
    refine ⟨.str x, rfl, x, init, last, rfl, xe, h10', xl, fun H2 p2 s2 n2 e2 => ⟨.str x, rfl, x, init, last, rfl, xe, h10', xl, fun H3 p3 s3 n3 e3 => ⟨by show 0 ≤ sizeLine; decide, fun C nC => ?_⟩⟩⟩
    rw [er] at e3
    have sC := same_new (o := .lst []) nC
    have eC := upd_same (H := H3) (a := C) (o := .lst [])
    have nCH : H C = none := (s1.trans (s2.trans s3)).free nC
    refine ⟨.ref p3, rfl, p3, X0, ws, rfl, sC _ _ e3, hs, b0, on.first, on.body, fun H4 q t s4 nq nt eq et => ⟨q, rfl, ⟨_, SqL.of eq⟩, ?_⟩⟩
    have eC4 := s4 _ _ eC
    have qC : q ≠ C := fun e => by
      rw [e, eC4] at eq
      cases eq
    have tC' : t ≠ C := fun e => by
      rw [e, eC4] at et
      cases et
    have sH4 : Same H H4 := s1.trans (s2.trans (s3.trans (sC.trans s4)))
    have e24 := s4 _ _ (sC _ _ (s3 _ _ e2))
    have p2C : p2 ≠ C := ne_of_none (s3 _ _ e2) nC
    refine for_list (K := K) (a := q) (xs := [.ref t]) (fun i σ H' => (i = 0 ∧ σ = [some (.str x), some (.str x), some (.ref p2), some (.ref p3), some (.ref C), some (.int 0), none] ∧ H4 = H') ∨ (i = 1 ∧ ∃ o dx fs, σ = [some (.str x), some (.str x), some (.ref p2), some (.ref p3), some (.ref C), some (.int ((ws.length + 1 : Nat) : Int)), some (.ref t)] ∧ (∀ b o, b ≠ C → H4 b = some o → H' b = some o) ∧ H' C = some (.lst [.ref o]) ∧ H' o = some (.ins C_Example dx fs) ∧ fs.lookup ("error" : Str) = some (optV (errP (ws.map (· ++ [10])))))) (.inl ⟨rfl, rfl, rfl⟩) ?_ ?_ ?_
    · rintro i σ H' _ (⟨_, _, rfl⟩ | ⟨_, o, dx, fs, _, ks, _⟩)
      · exact SqL.of eq
      · exact SqL.of (ks _ _ qC eq)
    · rintro i v σ H' hv (⟨rfl, rfl, rfl⟩ | ⟨rfl, _⟩)
      · cases hv
        refine ⟨fun σ' H' => σ' = [some (.str x), some (.str x), some (.ref p2), some (.ref p3), some (.ref C), some (.int 0), some (.ref t)] ∧ H4 = H', ⟨.int 0, rfl, .ref t, rfl, t, _, 0, .int 0, rfl, rfl, SqT.of et, atI_nat (j := 0) rfl, _, _, rfl, rfl, _, rfl, ?_⟩, ?_⟩
        · rw [decide_eq_false (by decide)]
          exact iteF ⟨rfl, rfl⟩
        rintro σ' H' ⟨rfl, rfl⟩
        refine ⟨.ref C, rfl, .inl ⟨rfl, _, SqL.of eC4⟩, .ref p3, rfl, .ref t, rfl, p3, t, ws, rfl, s4 _ _ (sC _ _ e3), et, hs, fun l hl => h10 l (List.mem_cons_of_mem _ hl), hl, fun H5 o dx fs s5 no eo lk => ⟨C, [], .ref o, rfl, rfl, s5 _ _ eC4, by decide, .ref t, rfl, t, [.int 0, .int 1, .int ((ws.length + 1 : Nat) : Int)], 2, .int ((ws.length + 1 : Nat) : Int), rfl, rfl, SqT.of ?_, atI_nat (j := 2) rfl, .inr ⟨rfl, o, dx, fs, rfl, fun b z nb eb => ?_, upd_same, ?_, lk⟩⟩⟩
        · rw [upd_ne tC']
          exact s5 _ _ et
        · rw [upd_ne nb]
          exact s5 _ _ eb
        · rw [upd_ne (fun e => by rw [e, eC4] at no; cases no)]
          exact eo
      · cases hv
    · rintro σ H' (⟨h, _⟩ | ⟨_, o, dx, fs, rfl, ks, eL, eo, lk⟩)
      · cases h
      · refine ⟨fun σ' H'' => σ' = [some (.str x), some (.str x), some (.ref p2), some (.ref p3), some (.ref C), some (.int ((ws.length + 1 : Nat) : Int)), some (.ref t)] ∧ H' = H'', ⟨.int ((ws.length + 1 : Nat) : Int), rfl, .ref p2, rfl, p2, _, rfl, .inl (SqL.of (ks _ _ p2C e24)), _, _, rfl, rfl, _, rfl, ?_⟩, ?_⟩
        · rw [List.length_map, List.length_map, ek, decide_eq_false (by omega)]
          exact iteF ⟨rfl, rfl⟩
        rintro σ' H'' ⟨rfl, rfl⟩
        exact ⟨.ref C, rfl, k _ C o dx fs (fun b z eb => ks _ _ (ne_of_none eb nCH) (sH4 _ _ eb)) nCH eL eo lk⟩
def sp_examples_of (C : Addr) : Sp := fun vs H Q _ => ∃ (x : Str) (ws : List (List Nat)), vs = [.str x] ∧ One x ws ∧
  ∀ (H' : Hp) (L q dx : Addr) (fs : List (Str × V)), Same H H' → H L = none → H' L = some (.lst [.ref q]) → H' q = some (.ins C dx fs) → fs.lookup ("error" : Str) = some (optV (errP (ws.map (· ++ [10])))) → Q (.ref L) H'
theorem ok_examples_of {f : Addr} {fd : FuncData} {dvs : List V} (F : Fn K "examples_of" s_examples_of dvs f fd) {C_Example : Addr} (T_Example : Txt_Example K mg C_Example) (O_parsed : Own P w K mg base "parsed" 7 ["text"] [] (sp_parsed C_Example)) (m_isinstance : mg "isinstance" = none) : FnOk P w K mg base CX0 8 f fd ["text"] (sp_examples_of C_Example) := by
  refine Fn.okN F sc_examples_of (fun vs H Q E h => ?_) (fun cdv A outer s H vs Q E hr h => ?_)
  · obtain ⟨_, _, rfl, _⟩ := h
    rfl
  · obtain ⟨x, ws, rfl, on, k⟩ := h
    refine ⟨_, (pss_one (ps_ret (pe_lc (own := [("piece", 1)]) (g := gName 1) (by rfl) sc_examples_of.nd (pi_list (pe_own O_parsed (hr.mono (by decide)) (by rfl) (pa_cons (pv 0) pa_nil))) (blkOk_by (own := [("piece", 1)]) (N := ["text", "piece"]) (sc := defScope s_examples_of) (by decide +kernel)) (fun _ _ _ _ _ => (pg_name (i := 1) sc_examples_of.nd rfl (.inl rfl))) (fun _ _ _ _ _ => (pts_one (pt_val (pe_callB (call_isiK (K' := K) rfl) (by rfl) m_isinstance (by decide +kernel) (pa_cons (pv 1) (pa_cons (pe_glob (v := .ref C_Example) rfl T_Example.mgC rfl) pa_nil)))))) (fun _ _ _ _ _ => (pv 1))))), ?_⟩
    refine ⟨.str x, rfl, x, ws, rfl, on, fun H1 L q dx fs s1 nL eL eq lk => ⟨L, rfl, ⟨_, SqL.of eL⟩, fun M nM => lc_list (K := K) (a := L) (xs := [.ref q]) (fun i H2 => H2 M = some (.lst ([V.ref q].take i)) ∧ Same H1 H2) ⟨upd_same, same_new nM⟩ (fun i H2 _ h => SqL.of (h.2 _ _ eL)) ?_ ?_⟩⟩
    · rintro i y H2 hi ⟨eM, s2⟩
      have ev : y = .ref q := List.mem_singleton.mp (List.mem_of_getElem? hi)
      have hi0 : i = 0 := by
        have : i < 1 := (List.getElem?_eq_some_iff.mp hi).1
        omega
      subst ev hi0
      refine ⟨rfl, .ref q, rfl, .ref q, .ref C_Example, _, _, true, rfl, .own _, .base (.ins (s2 _ _ eq) T_Example.cl T_Example.ha T_Example.hn T_Example.ht T_Example.hm), T_Example.ko, _, rfl, iteT ⟨.ref q, rfl, _, eM, by show 0 < sizeLine; decide, upd_same, fun b o e => ?_⟩⟩
      rw [upd_ne (ne_of_none e nM)]
      exact s2 b o e
    · rintro H2 ⟨eM, s2⟩
      exact k H2 M q dx fs (s1.trans s2) (s1.free nM) eM (s2 _ _ eq) lk
end

/-! ### the law -/
theorem op_is_bl {X : Cx} : OpR X (compareOp .Is) (fun x y H Q => ∃ a b : Bool, x = .bl a ∧ y = .bl b ∧ Q (.bl (a == b)) H) := by
  intro pins s σ H x y v u Q I rx ry h
  obtain ⟨a, b, rfl, rfl, q⟩ := h
  cases rx
  cases ry
  exact is_bool (fin_bl I q rfl)
/-- all signs are signs -/
def okS (x : Str) : Prop := strOkL (tl x) = true
where strOkL (l : List Nat) : Bool := l.all (· < 1114112)
theorem okS_iff {x : Str} : okS x ↔ ∀ c ∈ tl x, c < 1114112 := by
  unfold okS okS.strOkL
  rw [List.all_eq_true]
  exact ⟨fun h c hc => of_decide_eq_true (h c hc), fun h c hc => decide_eq_true (h c hc)⟩
theorem okS_str {x : Str} (h : okS x) : PyData.strOk x = true := by
  unfold PyData.strOk
  rw [Array.all_eq_true_iff_forall_mem]
  intro c hc
  exact decide_eq_true (okS_iff.mp h c (Array.mem_toList_iff.mpr hc))
theorem dp_strs {K : PySem.W.Frag} {H : Hp} : ∀ (ns : List Str), DpAll K H (ns.map V.str) (ns.map PyData.str)
  | [] => .nil
  | x :: r => .cons (.str x) (dp_strs r)
theorem canLay_strs (ns : List Str) (h : ∀ x ∈ ns, okS x) : PyData.canLayAll0 (ns.map PyData.str) = true := by
  induction ns with
  | nil => rfl
  | cons x r ih =>
    have h1 := okS_str (h x (List.mem_cons_self ..))
    have h2 := ih fun y hy => h y (List.mem_cons_of_mem _ hy)
    simp only [List.map_cons, PyData.canLayAll0, PyData.canLay0, Bool.and_eq_true]
    exact ⟨h1, h2⟩
theorem depth_strs (ns : List Str) : PyData.depthAll (ns.map PyData.str) ≤ 1 := by
  induction ns with
  | nil => simp [PyData.depthAll]
  | cons x r ih => simp [PyData.depthAll, PyData.depth]; omega
theorem shaped_strs (ns : List Str) (h : ∀ x ∈ ns, okS x) : SeqAt.shaped (.list (ns.map PyData.str)) = true := by
  have h1 := canLay_strs ns h
  have h2 := depth_strs ns
  simp [SeqAt.shaped, PyData.canLay0, PyData.depth, h1]
  omega
theorem eqv_nilS (ns : List Str) : PyData.eqv (.list (ns.map PyData.str)) (.list []) = ns.isEmpty := by
  cases ns <;> simp [PyData.eqv, PyData.eqvAll]

theorem joinL_flatten : ∀ xs : List (List Nat), joinL [] xs = xs.flatten
  | [] => rfl
  | a :: r => by rw [joinL_flat, joinL_flatten r, List.flatten_cons]
theorem wordS_ten (a : List Nat) : wordS (a ++ [10]) = wordS a := by
  cases a with
  | nil => decide +kernel
  | cons c r => rfl
theorem flatO_some {d : List (List Nat)} (h : d ≠ []) : flatO d = some (joinL [] d) := by
  cases d with
  | nil => exact absurd rfl h
  | cons a r => rfl
theorem err_tail (last : List Nat) : ∀ r : List (List Nat), flatO ((r.map (· ++ [10]) ++ ifAny last).dropWhile fun l => !wordS l) = (flatO (((r ++ [last]).dropWhile fun l => !wordS l).map (· ++ [10]))).map List.dropLast
  | [] => by
    unfold ifAny
    cases last with
    | nil => rfl
    | cons c l =>
      show flatO ([c :: l].dropWhile fun l => !wordS l) = (flatO (([c :: l].dropWhile fun l => !wordS l).map (· ++ [10]))).map List.dropLast
      rw [List.dropWhile_cons]
      split
      · rfl
      · show some (c :: l) = some ((c :: l) ++ [10]).dropLast
        rw [List.dropLast_concat]
  | a :: r => by
    rw [List.map_cons, List.cons_append, List.cons_append, List.dropWhile_cons, List.dropWhile_cons, wordS_ten]
    split
    · exact err_tail last r
    · rw [flatO_some (by simp), flatO_some (by simp)]
      have e : ((a :: (r ++ [last])).map (· ++ [10])) = ((a :: r).map (· ++ [10])) ++ [last ++ [10]] := by simp
      rw [e, joinL_flatten, joinL_flatten, List.flatten_append]
      show some _ = some (((a :: r).map (· ++ [10])).flatten ++ (last ++ [10] ++ [])).dropLast
      rw [List.append_nil, ← List.append_assoc, List.dropLast_concat]
      refine congrArg some ?_
      rw [← List.cons_append, ← List.map_cons (f := (· ++ [10])), List.flatten_append]
      unfold ifAny
      cases last with
      | nil => simp
      | cons c l => simp
/-- without a line feed at the end -/
theorem err_open (init : List (List Nat)) (last : List Nat) (h10 : ∀ l ∈ init ++ [last], (10 : Nat) ∉ l) : errP (keptOf init last) = (errL (init ++ [last])).map List.dropLast := by
  cases init with
  | nil =>
    unfold keptOf ifAny
    cases last with
    | nil =>
      show none = (errL [[]]).map List.dropLast
      unfold errL
      dsimp only
      split
      · rfl
      · rfl
    | cons c l =>
      show errP [c :: l] = (errL [c :: l]).map List.dropLast
      unfold errP errL
      dsimp only
      rw [noNl_free (h10 _ (List.mem_append_right _ (List.mem_singleton.mpr rfl)))]
      split
      · rfl
      · rfl
  | cons h r =>
    unfold keptOf errP errL
    rw [List.map_cons, List.cons_append, List.cons_append]
    dsimp only
    rw [noNl_fed]
    split
    · exact err_tail last r
    · rfl
/-- with a line feed at the end -/
theorem err_shut (ls : List (List Nat)) : errP (ls.map (· ++ [10])) = errL ls := by
  cases ls with
  | nil => rfl
  | cons h r =>
    unfold errP errL
    rw [List.map_cons]
    dsimp only
    rw [noNl_fed, List.dropWhile_map]
    have e : ((fun l : List Nat => !wordS l) ∘ (· ++ [10])) = fun l => !wordS l := funext fun l => by
      show (!wordS (l ++ [10])) = _
      rw [wordS_ten]
    rw [e]
section
variable {P : Program} {w : World} {K : PySem.W.Frag} {mg : Str → Option Value} {base : Heap}
def Sc (a : V) : Prop := a = .non ∨ ∃ s : Str, a = .str s
theorem Sc.ty {a : V} (h : Sc a) (K : PySem.W.Frag) : ∃ n : String, (∀ H, TyX K H a (.type n)) ∧ PySem.W.kitOne K (.type n) (.type "list") = some false ∧ PySem.W.kitOne K (.type n) (.type "tuple") = some false ∧ PySem.W.kitOne K (.type n) (.type "bool") = some false ∧ PySem.W.kitOne K (.type n) (.type "int") = some false := by
  rcases h with rfl | ⟨s, rfl⟩
  · exact ⟨"NoneType", fun H => .base .non, kit_ty (by decide +kernel), kit_ty (by decide +kernel), kit_ty (by decide +kernel), kit_ty (by decide +kernel)⟩
  · exact ⟨"str", fun H => .base (.str s), kit_ty (by decide +kernel), kit_ty (by decide +kernel), kit_ty (by decide +kernel), kit_ty (by decide +kernel)⟩
theorem Sc.scal {a b : V} (h : Sc a) (k : Sc b) : scal a b = true := by
  rcases h with rfl | ⟨s, rfl⟩ <;> rcases k with rfl | ⟨t, rfl⟩ <;> rfl
def sp_law_same0 : Sp := fun vs H Q _ => ∃ a b : V, vs = [a, b] ∧ Sc a ∧ Sc b ∧ ∀ H', Same H H' → Q (.bl (decide (a = b))) H'
theorem ok_law_same0 {f : Addr} {fd : FuncData} {dvs : List V} (F : Fn K "_law_same" s_law_same0 dvs f fd) (m_bool : mg "bool" = none) (m_int : mg "int" = none) (m_isinstance : mg "isinstance" = none) (m_list : mg "list" = none) (m_tuple : mg "tuple" = none) : FnOk P w K mg base CX0 1 f fd ["found", "due"] (sp_law_same0) := by
  refine Fn.okN F sc_law_same0 (fun vs H Q E h => ?_) (fun cdv A outer s H vs Q E hr h => ?_)
  · obtain ⟨_, _, rfl, _⟩ := h
    rfl
  · obtain ⟨a, b, rfl, ha, hb, k⟩ := h
    refine ⟨_, (pss_cons (ps_if (pt_val (pe_callB call_isiT (by rfl) m_isinstance (by decide +kernel) (pa_cons (pv 1) (pa_cons (pe_tup (pa_cons (pe_bltn (v := .ty "list") (by rfl) m_list (by decide +kernel) rfl) (pa_cons (pe_bltn (v := .ty "tuple") (by rfl) m_tuple (by decide +kernel) rfl) pa_nil))) pa_nil)))) pss_never pss_nil)
      (pss_cons (ps_if (pt_val (pe_callB call_isiT (by rfl) m_isinstance (by decide +kernel) (pa_cons (pv 1) (pa_cons (pe_tup (pa_cons (pe_bltn (v := .ty "bool") (by rfl) m_bool (by decide +kernel) rfl) (pa_cons (pe_bltn (v := .ty "int") (by rfl) m_int (by decide +kernel) rfl) pa_nil))) pa_nil))))
          (pss_one (ps_ret (pe_and (pe_callB call_isi (by rfl) m_isinstance (by decide +kernel) (pa_cons (pv 0) (pa_cons (pe_bltn (v := .ty "int") (by rfl) m_int (by decide +kernel) rfl) pa_nil))) (pe_and (pe_cmpR op_eq (pe_callB call_isi (by rfl) m_isinstance (by decide +kernel) (pa_cons (pv 0) (pa_cons (pe_bltn (v := .ty "bool") (by rfl) m_bool (by decide +kernel) rfl) pa_nil))) (pe_callB call_isi (by rfl) m_isinstance (by decide +kernel) (pa_cons (pv 1) (pa_cons (pe_bltn (v := .ty "bool") (by rfl) m_bool (by decide +kernel) rfl) pa_nil))) (nomark _)) (pe_one (pe_cmpR op_eq (pv 0) (pv 1) (nomark _)))))))
          pss_nil)
      (pss_one (ps_ret (pe_and (pe_cmpR op_is_bl (pe_callB call_isi (by rfl) m_isinstance (by decide +kernel) (pa_cons (pv 0) (pa_cons (pe_bltn (v := .ty "bool") (by rfl) m_bool (by decide +kernel) rfl) pa_nil))) pe_bl (nomark _)) (pe_one (pe_cmpR op_eq (pv 0) (pv 1) (nomark _)))))))), ?_⟩
    obtain ⟨na, tya, k1a, k2a, k3a, k4a⟩ := ha.ty K
    obtain ⟨nb, tyb, k1b, k2b, k3b, k4b⟩ := hb.ty K
    refine ⟨b, rfl, by show 2 ≤ sizeLine; decide, fun T nT => ?_⟩
    have sT := same_new (o := .tup [.ty "list", .ty "tuple"]) nT
    have tT : (upd H T (.tup [.ty "list", .ty "tuple"])) T = some (.tup [.ty "list", .ty "tuple"]) := upd_same
    generalize upd H T (.tup [.ty "list", .ty "tuple"]) = H1 at sT tT ⊢
    refine ⟨b, T, [.ty "list", .ty "tuple"], _, _, false, rfl, tT, .cons (.ty "list") (.cons (.ty "tuple") .nil), tyb H1, kitAny_cons (b := false) k1b (fun _ => kitAny_cons (b := false) k2b (fun _ => kitAny_nil) (fun h => Bool.noConfusion h)) (fun h => Bool.noConfusion h), false, rfl, iteF ?_⟩
    refine ⟨b, rfl, by show 2 ≤ sizeLine; decide, fun T2 nT2 => ?_⟩
    have sT2 := same_new (o := .tup [.ty "bool", .ty "int"]) nT2
    have tT2 : (upd H1 T2 (.tup [.ty "bool", .ty "int"])) T2 = some (.tup [.ty "bool", .ty "int"]) := upd_same
    generalize upd H1 T2 (.tup [.ty "bool", .ty "int"]) = H2 at sT2 tT2 ⊢
    refine ⟨b, T2, [.ty "bool", .ty "int"], _, _, false, rfl, tT2, .cons (.ty "bool") (.cons (.ty "int") .nil), tyb H2, kitAny_cons (b := false) k3b (fun _ => kitAny_cons (b := false) k4b (fun _ => kitAny_nil) (fun h => Bool.noConfusion h)) (fun h => Bool.noConfusion h), false, rfl, iteF ?_⟩
    exact ⟨a, rfl, _, _, _, _, false, rfl, .ty "bool", tya H2, k3a, _, _, rfl, rfl, true, rfl, iteT ⟨a, rfl, b, rfl, ha.scal hb, k H2 (sT.trans sT2)⟩⟩
def sp_law_same : Sp := fun vs H Q _ => ∃ u v a b : V, vs = [u, v] ∧ Sc a ∧ Sc b ∧ (u = a ∧ v = b ∨ ∃ p q : Addr, u = .ref p ∧ v = .ref q ∧ H p = some (.lst [a]) ∧ H q = some (.lst [b])) ∧ ∀ H', Same H H' → Q (.bl (decide (a = b))) H'
theorem ok_law_same {f : Addr} {fd : FuncData} {dvs : List V} (F : Fn K "_law_same" s_law_same dvs f fd) (O_law_same0 : Own P w K mg base "_law_same" 1 ["found", "due"] [] (sp_law_same0)) (m_all : mg "all" = none) (m_bool : mg "bool" = none) (m_int : mg "int" = none) (m_isinstance : mg "isinstance" = none) (m_len : mg "len" = none) (m_list : mg "list" = none) (m_tuple : mg "tuple" = none) (m_zip : mg "zip" = none) : FnOk P w K mg base CX0 2 f fd ["found", "due"] (sp_law_same) := by
  refine Fn.okN F sc_law_same (fun vs H Q E h => ?_) (fun cdv A outer s H vs Q E hr h => ?_)
  · obtain ⟨_, _, _, _, rfl, _⟩ := h
    rfl
  · obtain ⟨u, v, a, b, rfl, ha, hb, hv, k⟩ := h
    refine ⟨_, (pss_cons (ps_if (pt_val (pe_callB call_isiT (by rfl) m_isinstance (by decide +kernel) (pa_cons (pv 1) (pa_cons (pe_tup (pa_cons (pe_bltn (v := .ty "list") (by rfl) m_list (by decide +kernel) rfl) (pa_cons (pe_bltn (v := .ty "tuple") (by rfl) m_tuple (by decide +kernel) rfl) pa_nil))) pa_nil))))
          (pss_cons (ps_if (PW.pt (pw_or (pt_cmpR op_ne (pe_callB call_isi (by rfl) m_isinstance (by decide +kernel) (pa_cons (pv 0) (pa_cons (pe_bltn (v := .ty "list") (by rfl) m_list (by decide +kernel) rfl) pa_nil))) (pe_callB call_isi (by rfl) m_isinstance (by decide +kernel) (pa_cons (pv 1) (pa_cons (pe_bltn (v := .ty "list") (by rfl) m_list (by decide +kernel) rfl) pa_nil))) (nomark _)) (pw_or1 (pt_cmpR op_ne (pe_callB call_isi (by rfl) m_isinstance (by decide +kernel) (pa_cons (pv 0) (pa_cons (pe_bltn (v := .ty "tuple") (by rfl) m_tuple (by decide +kernel) rfl) pa_nil))) (pe_callB call_isi (by rfl) m_isinstance (by decide +kernel) (pa_cons (pv 1) (pa_cons (pe_bltn (v := .ty "tuple") (by rfl) m_tuple (by decide +kernel) rfl) pa_nil))) (nomark _)))))
                (pss_one (ps_ret pe_bl))
                pss_nil)
            (pss_one (ps_ret (pe_and (pe_cmpR op_eq (pe_callB call_len_seq (by rfl) m_len PySem.boot_len (pa_cons (pv 0) pa_nil)) (pe_callB call_len_seq (by rfl) m_len PySem.boot_len (pa_cons (pv 1) pa_nil)) (nomark _)) (pe_one (pe_callB (cr_all rfl) (by rfl) m_all (by decide +kernel) (pa_cons (pe_lc (own := [("one", 2), ("two", 3)]) (g := gTup K 2 (gCons (gName 2) (gCons (gName 3) gNil))) (tt := tYes) (by rfl) sc_law_same.nd (pi_zip (by rfl) m_zip (pa_cons (pv 0) (pa_cons (pv 1) pa_nil))) (blkOk_by (own := [("one", 2), ("two", 3)]) (N := ["found", "due", "one", "two"]) (sc := defScope s_law_same) (by decide +kernel)) (fun _ _ _ _ _ => (pg_tup rfl (pgs_cons (pg_name (i := 2) sc_law_same.nd rfl (.inl rfl)) (pgs_cons (pg_name (i := 3) sc_law_same.nd rfl (.inl rfl)) pgs_nil)))) (fun _ _ _ _ _ => pts_nil) (fun _ _ _ _ _ => (pe_own O_law_same0 (hr.mono (by decide)) (by rfl) (pa_cons (pv 2) (pa_cons (pv 3) pa_nil))))) pa_nil)))))))
          pss_nil)
      (pss_cons (ps_if (pt_val (pe_callB call_isiT (by rfl) m_isinstance (by decide +kernel) (pa_cons (pv 1) (pa_cons (pe_tup (pa_cons (pe_bltn (v := .ty "bool") (by rfl) m_bool (by decide +kernel) rfl) (pa_cons (pe_bltn (v := .ty "int") (by rfl) m_int (by decide +kernel) rfl) pa_nil))) pa_nil))))
          (pss_one (ps_ret (pe_and (pe_callB call_isi (by rfl) m_isinstance (by decide +kernel) (pa_cons (pv 0) (pa_cons (pe_bltn (v := .ty "int") (by rfl) m_int (by decide +kernel) rfl) pa_nil))) (pe_and (pe_cmpR op_eq (pe_callB call_isi (by rfl) m_isinstance (by decide +kernel) (pa_cons (pv 0) (pa_cons (pe_bltn (v := .ty "bool") (by rfl) m_bool (by decide +kernel) rfl) pa_nil))) (pe_callB call_isi (by rfl) m_isinstance (by decide +kernel) (pa_cons (pv 1) (pa_cons (pe_bltn (v := .ty "bool") (by rfl) m_bool (by decide +kernel) rfl) pa_nil))) (nomark _)) (pe_one (pe_cmpR op_eq (pv 0) (pv 1) (nomark _)))))))
          pss_nil)
      (pss_one (ps_ret (pe_and (pe_cmpR op_is_bl (pe_callB call_isi (by rfl) m_isinstance (by decide +kernel) (pa_cons (pv 0) (pa_cons (pe_bltn (v := .ty "bool") (by rfl) m_bool (by decide +kernel) rfl) pa_nil))) pe_bl (nomark _)) (pe_one (pe_cmpR op_eq (pv 0) (pv 1) (nomark _)))))))), ?_⟩
    obtain ⟨na, tya, k1a, k2a, k3a, k4a⟩ := ha.ty K
    obtain ⟨nb, tyb, k1b, k2b, k3b, k4b⟩ := hb.ty K
    rcases hv with ⟨rfl, rfl⟩ | ⟨p, q, rfl, rfl, hp, hq⟩
    · refine ⟨v, rfl, by show 2 ≤ sizeLine; decide, fun T nT => ?_⟩
      have sT := same_new (o := .tup [.ty "list", .ty "tuple"]) nT
      have tT : (upd H T (.tup [.ty "list", .ty "tuple"])) T = some (.tup [.ty "list", .ty "tuple"]) := upd_same
      generalize upd H T (.tup [.ty "list", .ty "tuple"]) = H1 at sT tT ⊢
      refine ⟨v, T, [.ty "list", .ty "tuple"], _, _, false, rfl, tT, .cons (.ty "list") (.cons (.ty "tuple") .nil), tyb H1, kitAny_cons (b := false) k1b (fun _ => kitAny_cons (b := false) k2b (fun _ => kitAny_nil) (fun h => Bool.noConfusion h)) (fun h => Bool.noConfusion h), false, rfl, iteF ?_⟩
      refine ⟨v, rfl, by show 2 ≤ sizeLine; decide, fun T2 nT2 => ?_⟩
      have sT2 := same_new (o := .tup [.ty "bool", .ty "int"]) nT2
      have tT2 : (upd H1 T2 (.tup [.ty "bool", .ty "int"])) T2 = some (.tup [.ty "bool", .ty "int"]) := upd_same
      generalize upd H1 T2 (.tup [.ty "bool", .ty "int"]) = H2 at sT2 tT2 ⊢
      refine ⟨v, T2, [.ty "bool", .ty "int"], _, _, false, rfl, tT2, .cons (.ty "bool") (.cons (.ty "int") .nil), tyb H2, kitAny_cons (b := false) k3b (fun _ => kitAny_cons (b := false) k4b (fun _ => kitAny_nil) (fun h => Bool.noConfusion h)) (fun h => Bool.noConfusion h), false, rfl, iteF ?_⟩
      exact ⟨u, rfl, _, _, _, _, false, rfl, .ty "bool", tya H2, k3a, _, _, rfl, rfl, true, rfl, iteT ⟨u, rfl, v, rfl, ha.scal hb, k H2 (sT.trans sT2)⟩⟩
    · refine ⟨.ref q, rfl, by show 2 ≤ sizeLine; decide, fun T nT => ?_⟩
      have sT := same_new (o := .tup [.ty "list", .ty "tuple"]) nT
      have tT : (upd H T (.tup [.ty "list", .ty "tuple"])) T = some (.tup [.ty "list", .ty "tuple"]) := upd_same
      generalize upd H T (.tup [.ty "list", .ty "tuple"]) = H1 at sT tT ⊢
      have hp1 := sT _ _ hp
      have hq1 := sT _ _ hq
      refine ⟨.ref q, T, [.ty "list", .ty "tuple"], _, _, true, rfl, tT, .cons (.ty "list") (.cons (.ty "tuple") .nil), .base (.lst hq1), kitAny_cons (b := true) (kit_ty (by decide +kernel)) (fun h => Bool.noConfusion h) (fun _ => rfl), true, rfl, iteT ?_⟩
      refine ⟨.ref p, rfl, _, _, _, _, true, rfl, .ty "list", .base (.lst hp1), kit_ty (by decide +kernel), .ref q, rfl, _, _, _, _, true, rfl, .ty "list", .base (.lst hq1), kit_ty (by decide +kernel), rfl, _, rfl, ?_⟩
      rw [decide_eq_true (rfl : (V.bl true : V) = _)]
      refine iteF ⟨.ref p, rfl, _, _, _, _, false, rfl, .ty "tuple", .base (.lst hp1), kit_ty (by decide +kernel), .ref q, rfl, _, _, _, _, false, rfl, .ty "tuple", .base (.lst hq1), kit_ty (by decide +kernel), rfl, _, rfl, ?_⟩
      rw [decide_eq_true (rfl : (V.bl false : V) = _)]
      refine iteF ⟨.ref p, rfl, p, [a], rfl, .inl (SqL.of hp1), .ref q, rfl, q, [b], rfl, .inl (SqL.of hq1), rfl, true, congrArg V.bl (decide_eq_true rfl), iteT ⟨.ref p, rfl, .ref q, rfl, p, q, [a], [b], rfl, SqL.of hp1, SqL.of hq1, fun D nD => ?_⟩⟩
      have sD := same_new (o := .lst []) nD
      refine ⟨fun i m H' => (i = 0 ∧ m = 1 ∧ upd H1 D (.lst []) = H') ∨ (i = 1 ∧ m = 0 ∧ Same H1 H' ∧ H' D = some (.lst [.bl (decide (a = b))])), ⟨1, .inl ⟨rfl, rfl, rfl⟩⟩, ?_⟩
      rintro i m H' (⟨rfl, rfl, rfl⟩ | ⟨rfl, rfl, s2, eD⟩)
      · refine .inr ⟨⟨[a], [b], a, b, SqL.of (sD _ _ hp1), SqL.of (sD _ _ hq1), rfl, rfl⟩, fun H' => Same H1 H' ∧ H' D = some (.lst [.bl (decide (a = b))]), fun H' h => ⟨0, Nat.zero_lt_one, .inr ⟨rfl, rfl, h.1, h.2⟩⟩, ?_⟩
        rintro x H' ⟨T2, x', y', rfl, nT2, rfl, hx, hy⟩
        cases hx [a] (SqL.of (sD _ _ hp1))
        cases hy [b] (SqL.of (sD _ _ hq1))
        refine ⟨T2, [a, b], rfl, SqT.of upd_same, rfl, _, _, rfl, _, _, rfl, rfl, rfl, ?_⟩
        unfold tYes
        show ite (true = true) _ _
        rw [if_pos rfl]
        have sT2 := same_new (o := .tup [a, b]) nT2
        refine ⟨a, rfl, b, rfl, a, b, rfl, ha, hb, fun H3 s3 => ⟨[], s3 _ _ (sT2 _ _ upd_same), by show 0 < sizeLine; decide, fun b' o e => ?_, upd_same⟩⟩
        rw [upd_ne (ne_of_none e nD)]
        exact s3 _ _ (sT2 _ _ (sD _ _ e))
      · refine .inl ⟨⟨[a], [b], SqL.of (s2 _ _ hp1), SqL.of (s2 _ _ hq1), .inl (Nat.le_refl _)⟩, D, [decide (a = b)], rfl, SqL.of eD, ?_⟩
        show Q (.bl (decide (a = b) && true)) H'
        rw [Bool.and_true]
        exact k _ (sT.trans s2)
theorem cut_one (l : List Nat) : cutS (mk l) none (some (1 : Int)) = mk (l.take 1) := by
  refine ext_tl ?_
  show (l.drop (HT.sIx (mk l).length 0 none)).take (HT.sIx (mk l).length (mk l).length (some ((1 : Nat) : Int)) - HT.sIx (mk l).length 0 none) = l.take 1
  rw [HT.sIx_none, HT.sIx_nat, List.drop_zero, Nat.sub_zero, mk_len]
  cases l with
  | nil => rfl
  | cons c r =>
    rw [List.length_cons, Nat.min_eq_left (by omega)]
theorem wordS_cut (l : List Nat) : wordS l = (Txt.isalnum (mk (l.take 1)) || decide (V.str (mk (l.take 1)) = V.str "_")) := by
  cases l with
  | nil => decide +kernel
  | cons c r =>
    show (c == 95 || Txt.isalnum ⟨#[c]⟩) = (Txt.isalnum ⟨#[c]⟩ || decide (V.str ⟨#[c]⟩ = V.str "_"))
    rw [us_dec, Bool.or_comm]
theorem sum_le_of {b : Nat} : ∀ {ls : List (List Nat)}, (∀ l ∈ ls, l.length ≤ b) → (ls.map (·.length)).sum ≤ ls.length * b
  | [], _ => Nat.zero_le _
  | a :: r, h => by
    have h1 := h a (List.mem_cons_self ..)
    have h2 := sum_le_of fun l hl => h l (List.mem_cons_of_mem _ hl)
    rw [List.map_cons, List.sum_cons, List.length_cons, Nat.succ_mul]
    omega
def sp_law_error : Sp := fun vs H Q _ => ∃ (p : Addr) (ws : List (List Nat)), vs = [.ref p] ∧ H p = some (rowsV ws) ∧ (∀ l ∈ ws, l.length ≤ 60 ∧ ∀ c ∈ l, c < 1114112) ∧ ws.length ≤ 20 ∧ ∀ H', Same H H' → Q (optV (errL ws)) H'
theorem ok_law_error {f : Addr} {fd : FuncData} {dvs : List V} (F : Fn K "_law_error" s_law_error dvs f fd) (m_len : mg "len" = none) (m_range : mg "range" = none) : FnOk P w K mg base CX0 1 f fd ["lines"] (sp_law_error) := by
  refine Fn.okN F sc_law_error (fun vs H Q E h => ?_) (fun cdv A outer s H vs Q E hr h => ?_)
  · obtain ⟨_, _, rfl, _⟩ := h
    rfl
  · obtain ⟨p, ws, rfl, hp, hl, hn, k⟩ := h
    refine ⟨_, (pss_cons (ps_set (i := 1) sc_law_error.nd rfl (.inl rfl) (pe_tup (pa_cons pe_str (pa_cons pe_str pa_nil))))
      (pss_cons (ps_if (PW.pt (pw_or (pt_cmpR (op_eqD hr.units) (pv 0) (pe_lst pa_nil) (nomark _)) (pw_or1 (pt_cmpR op_notIn_seq (pe_m1 PySem.F.slot_str_rstrip PySem.F.type_str_rstrip mt_rstripChars (pe_ix ix_list (pv 0) pe_int (fun _ _ => rfl)) pe_str) (pv 1) rfl))))
          (pss_one (ps_ret pe_non))
          pss_nil)
      (pss_cons (ps_for PassesOwn.never rfl (pi_range2 rfl m_range (pa_cons pe_int (pa_cons (pe_callB call_len_seq (by rfl) m_len PySem.boot_len (pa_cons (pv 0) pa_nil)) pa_nil))) (pg_name (i := 2) sc_law_error.nd rfl (.inl rfl))
          (pss_one (ps_if (PW.pt (pw_or (pt_val (pe_m0 PySem.F.slot_str_isalnum PySem.F.type_str_isalnum mt_isalnum (pe_slice sl_str (pe_ix ix_list (pv 0) (pv 2) (fun _ _ => rfl)) po_none (po_some pe_int)))) (pw_or1 (pt_cmpR op_eq (pe_slice sl_str (pe_ix ix_list (pv 0) (pv 2) (fun _ _ => rfl)) po_none (po_some pe_int)) pe_str (nomark _)))))
                (pss_one (ps_ret (pe_m1 PySem.F.slot_str_join PySem.F.type_str_join mt_join pe_str (pe_lc (own := [("each", 3)]) (g := gName 3) (tt := tYes) (by rfl) sc_law_error.nd (pi_list (pe_slice sl_list (pv 0) (po_some (pv 2)) po_none)) (blkOk_by (own := [("each", 3)]) (N := ["lines", "heads", "at", "each"]) (sc := defScope s_law_error) (by decide +kernel)) (fun _ _ _ _ _ => (pg_name (i := 3) sc_law_error.nd rfl (.inl rfl))) (fun _ _ _ _ _ => pts_nil) (fun _ _ _ _ _ => (pe_op op_add_str (pv 3) pe_str))))))
                pss_nil)))
      (pss_one (ps_ret pe_non))))), ?_⟩
    have oks : ∀ x ∈ ws.map mk, okS x := fun x hx => by
      obtain ⟨l, h, rfl⟩ := List.mem_map.mp hx
      exact okS_iff.mpr (hl l h).2
    refine ⟨by show 2 ≤ sizeLine; decide, fun T nT => ?_⟩
    have sT := same_new (o := .tup [.str "Traceback (most recent call last):", .str "Traceback (innermost last):"]) nT
    have tT := upd_same (H := H) (a := T) (o := .tup [.str "Traceback (most recent call last):", .str "Traceback (innermost last):"])
    generalize upd H T (.tup [.str "Traceback (most recent call last):", .str "Traceback (innermost last):"]) = H1 at sT tT ⊢
    refine ⟨.ref p, rfl, by show 0 ≤ sizeLine; decide, fun Z nZ => ?_⟩
    have sZ := same_new (o := .lst []) nZ
    refine ⟨_, _, .lst (SqL.of (sZ _ _ (sT _ _ hp))) (dp_strs _), .lst (SqL.of upd_same) .nil, shaped_strs _ oks, shaped_strs [] nofun, _, rfl, ?_⟩
    have tT2 := sZ _ _ tT
    have s2 := sT.trans sZ
    generalize upd H1 Z (.lst []) = H2 at s2 tT2 ⊢
    have hp2 := s2 _ _ hp
    clear sZ nZ tT sT nT
    rw [eqv_nilS]
    cases ws with
    | nil => exact iteT (iteT (k _ s2))
    | cons h r =>
      have eh : inV (.str (Txt.rstripChars (mk h) " ")) [.str "Traceback (most recent call last):", .str "Traceback (innermost last):"] = isHead h := rfl
      have hh := (hl h (List.mem_cons_self ..)).1
      refine iteF ⟨.ref p, rfl, p, _, 0, .str (mk h), rfl, rfl, SqL.of hp2, atI_nat (j := 0) rfl, ⟨_, rfl⟩, mk h, " ", rfl, rfl, by rw [mk_len]; exact line_of (by omega), .ref T, rfl, T, _, rfl, .inr (SqT.of tT2), rfl, rfl, _, rfl, ?_⟩
      rw [eh]
      unfold errL at k
      dsimp only at k
      cases hd : isHead h with
      | false =>
        rw [hd] at k
        exact iteT (k _ s2)
      | true =>
        rw [hd, if_pos rfl] at k
        have hlen : (((h :: r).map mk).map V.str).length = r.length + 1 := by rw [List.length_map, List.length_map]; rfl
        rw [List.length_cons] at hn
        refine iteF ⟨.ref p, rfl, p, _, rfl, .inl (SqL.of hp2), ?_⟩
        rw [hlen]
        refine ⟨1, ((r.length + 1 : Nat) : Int), rfl, ⟨by decide, by decide, by omega, by omega⟩, for_range (lo := 1) (n := (((r.length + 1 : Nat) : Int) - 1).toNat) (fun i σ H3 => ∃ v2, σ = [some (.ref p), some (.ref T), v2, none] ∧ Same H2 H3 ∧ ∀ j l, j < i → r[j]? = some l → wordS l = false) ⟨_, rfl, fun _ _ e => e, fun j l a _ => absurd a (Nat.not_lt_zero _)⟩ ?_ ?_⟩
        · rintro i σ H3 hi ⟨v2, rfl, s3, hb⟩
          have hir : i < r.length := by omega
          have ei : (1 : Int) + (i : Nat) = ((i + 1 : Nat) : Int) := by omega
          have hl2 : r[i]? = some r[i] := List.getElem?_eq_getElem hir
          have hm := List.mem_of_getElem? hl2
          have hg : (((h :: r).map mk).map V.str)[i + 1]? = some (.str (mk r[i])) := by
            rw [List.getElem?_map, List.getElem?_map, List.getElem?_cons_succ, hl2]
            rfl
          have hll := (hl _ (List.mem_cons_of_mem _ hm)).1
          generalize r[i] = l at hl2 hm hg hll
          have lz : (mk l).length ≤ sizeLine := by rw [mk_len]; exact line_of (by omega)
          have wc := wordS_cut l
          rw [ei]
          refine ⟨.ref p, rfl, .int ((i + 1 : Nat) : Int), rfl, p, _, _, .str (mk l), rfl, rfl, SqL.of (s3 _ _ hp2), atI_nat hg, 1, rfl, mk l, rfl, lz, ⟨_, rfl⟩, _, rfl, rfl, trivial, _, rfl, ?_⟩
          rw [cut_one]
          cases hw : wordS l with
          | false =>
            rw [hw] at wc
            have w2 := Bool.or_eq_false_iff.mp wc.symm
            rw [w2.1]
            refine iteF ⟨.ref p, rfl, .int ((i + 1 : Nat) : Int), rfl, p, _, _, .str (mk l), rfl, rfl, SqL.of (s3 _ _ hp2), atI_nat hg, 1, rfl, mk l, rfl, lz, rfl, _, rfl, ?_⟩
            rw [cut_one, w2.2]
            refine iteF ⟨_, rfl, s3, fun j l' hj hjl => ?_⟩
            rcases Nat.lt_or_ge j i with a | a
            · exact hb j l' a hjl
            · have : j = i := by omega
              rw [this, hl2] at hjl
              cases hjl
              exact hw
          | true =>
            rw [hw] at wc
            refine ite_same ?_ (fun h1 c => iteT c) (fun h1 c => ⟨.ref p, rfl, .int ((i + 1 : Nat) : Int), rfl, p, _, _, .str (mk l), rfl, rfl, SqL.of (s3 _ _ hp2), atI_nat hg, 1, rfl, mk l, rfl, lz, rfl, _, rfl, by
              rw [cut_one, show decide (V.str (mk (l.take 1)) = V.str "_") = true by
                rw [h1, Bool.false_or] at wc
                exact wc.symm]
              exact iteT c⟩)
            have dw : (r.dropWhile fun l => !wordS l) = r.drop i := dropWhile_at hl2 (by rw [hw]; rfl) fun j l' hj hjl => by rw [hb j l' hj hjl]; rfl
            have dn : r.drop i ≠ [] := fun z => by
              have := congrArg List.length z
              rw [List.length_drop] at this
              have z0 : ([] : List (List Nat)).length = 0 := rfl
              omega
            rw [dw, flatO_some (by rw [ne_eq, List.map_eq_nil_iff]; exact dn)] at k
            refine ⟨⟨_, rfl⟩, .ref p, rfl, .int ((i + 1 : Nat) : Int), rfl, _, rfl, p, _, rfl, SqL.of (s3 _ _ hp2), fun q nq => ?_⟩
            have ec : cutV (((h :: r).map mk).map V.str) (some ((i + 1 : Nat) : Int)) none = ((r.drop i).map mk).map V.str := by
              rw [cutV_drop _ _ (by rw [hlen]; omega), List.map_drop, List.map_drop]
              rfl
            have sq := same_new (o := .lst (((r.drop i).map mk).map V.str)) nq
            rw [ec]
            have hq : ∀ l ∈ r.drop i, l.length ≤ 60 := fun l hl' => (hl l (List.mem_cons_of_mem _ (List.mem_of_mem_drop hl'))).1
            have hqn : (r.drop i).length ≤ 20 := by
              rw [List.length_drop]
              omega
            generalize r.drop i = ds at k sq hq hqn ec dn ⊢
            refine ⟨q, rfl, ⟨_, SqL.of upd_same⟩, fun M nM => lc_list (K := K) (a := q) (xs := (ds.map mk).map V.str) (fun i H4 => H4 M = some (rowsV ((ds.take i).map (· ++ [10]))) ∧ Same (upd H3 q (.lst ((ds.map mk).map V.str))) H4) ⟨upd_same, same_new nM⟩ (fun i H4 _ h4 => SqL.of (h4.2 _ _ upd_same)) ?_ ?_⟩
            · rintro i v H4 hv ⟨eM, s4⟩
              obtain ⟨z, rfl, hz⟩ := str_at hv
              rw [List.getElem?_map] at hz
              obtain ⟨l, hl2, rfl⟩ := Option.map_eq_some_iff.mp hz
              have gl := hq l (List.mem_of_getElem? hl2)
              have l1 : ("\n" : Str).length = 1 := rfl
              refine ⟨rfl, ?_⟩
              unfold tYes
              show ite (true = true) _ _
              rw [if_pos rfl]
              refine ⟨.str (mk l), rfl, _, _, rfl, rfl, ?_, _, eM, ?_, ?_, fun b o e => ?_⟩
              · rw [mk_len, l1]
                exact line_of (by omega)
              · rw [List.length_map, List.length_map, List.length_map, List.length_take]
                exact Nat.lt_of_le_of_lt (show min i ds.length ≤ 20 by omega) (by decide)
              · rw [upd_same, List.take_add_one, hl2, List.map_append]
                unfold rowsV
                rw [List.map_append, List.map_append]
                exact congrArg (fun v => some (HO.lst ((((ds.take i).map (· ++ [10])).map mk).map V.str ++ [v]))) (congrArg V.str (ext_tl (by rw [tl_append]; rfl)))
              · rw [upd_ne (ne_of_none e nM)]
                exact s4 b o e
            rintro H4 ⟨eM, s4⟩
            rw [List.length_map, List.length_map, List.take_length] at eM
            refine ⟨"", M, (ds.map (· ++ [10])).map mk, rfl, rfl, .inl (SqL.of eM), ?_, ?_⟩
            · have e0 : ("" : Str).length = 0 := by decide +kernel
              have sb := sum_le_of hq
              rw [e0, Nat.mul_zero, List.map_map]
              show ((ds.map (· ++ [10])).map (·.length)).sum + 0 ≤ _
              rw [sum_fed]
              omega
            · have e0 : ("" : Str) = mk [] := ext_tl (by decide +kernel)
              rw [e0, join_mk]
              exact k _ (s2.trans (s3.trans (sq.trans s4)))
        · rintro σ H3 ⟨v2, rfl, s3, hb⟩
          rw [dropWhile_none (fun l hl => ?_)] at k
          · exact k _ (s2.trans s3)
          · obtain ⟨j, hj, e⟩ := List.getElem_of_mem hl
            rw [hb j l (by omega) (by rw [List.getElem?_eq_getElem hj, e])]
            rfl
def hd0 : Str := "Traceback (most recent call last):"
def hd1 : Str := "Traceback (innermost last):"
def menuH : List Str := [hd0, hd1, hd0, hd1, hd0, hd1, hd0 ++ "   ", hd0 ++ " x", " " ++ hd1, cutS hd0 none (some (-1)), hd0 ++ "\t", hd1 ++ " ", "traceback (most recent call last):", "x", hd0 ++ "E"]
def sp_law_head : Sp := fun vs H Q _ => ∃ (D A B : Addr) (n : Int), vs = [.ref D] ∧ Drw H D A B n ∧ n < 900000 ∧
  ∀ (x : Str) (H' : Hp), x ∈ menuH → Drw H' D A B (n + 1) → Kept D A H H' → Q (.str x) H'
theorem ok_law_head {f : Addr} {fd : FuncData} {dvs : List V} (F : Fn K "_law_head" s_law_head dvs f fd) (O_law_pick : Own P w K mg base "_law_pick" 3 ["draws", "things"] [] (sp_law_pick)) : FnOk P w K mg base CX0 4 f fd ["draws"] (sp_law_head) := by
  refine Fn.okN F sc_law_head (fun vs H Q E h => ?_) (fun cdv A outer s H vs Q E hr h => ?_)
  · obtain ⟨_, _, _, _, rfl, _⟩ := h
    rfl
  · obtain ⟨D, A1, B, n, rfl, dr, hn, k⟩ := h
    refine ⟨_, (pss_cons (ps_set (i := 1) sc_law_head.nd rfl (.inl rfl) (pe_lst (pa_cons pe_str (pa_cons pe_str pa_nil))))
      (pss_cons (ps_set (i := 2) sc_law_head.nd rfl (.inl rfl) (pe_lst (pa_cons (pe_op op_add_str (pe_ix ix_list (pv 1) pe_int (fun _ _ => rfl)) pe_str) (pa_cons (pe_op op_add_str (pe_ix ix_list (pv 1) pe_int (fun _ _ => rfl)) pe_str) (pa_cons (pe_op op_add_str pe_str (pe_ix ix_list (pv 1) pe_int (fun _ _ => rfl))) (pa_cons (pe_slice sl_str (pe_ix ix_list (pv 1) pe_int (fun _ _ => rfl)) po_none (po_some (pe_un un_neg pe_int))) (pa_cons (pe_op op_add_str (pe_ix ix_list (pv 1) pe_int (fun _ _ => rfl)) pe_str) (pa_cons (pe_op op_add_str (pe_ix ix_list (pv 1) pe_int (fun _ _ => rfl)) pe_str) pa_nil))))))))
      (pss_one (ps_ret (pe_own O_law_pick (hr.mono (by decide)) (by rfl) (pa_cons (pv 0) (pa_cons (pe_op op_cat (pe_op op_cat (pe_op op_rep (pv 1) pe_int) (pv 2)) (pe_lst (pa_cons pe_str (pa_cons pe_str (pa_cons (pe_op op_add_str (pe_ix ix_list (pv 1) pe_int (fun _ _ => rfl)) pe_str) pa_nil))))) pa_nil))))))), ?_⟩
    have z0 : hd0.length ≤ 60 := by decide +kernel
    have z1 : hd1.length ≤ 60 := by decide +kernel
    refine ⟨by show 2 ≤ sizeLine; decide, fun L1 n1 => ?_⟩
    have s1 := same_new (o := .lst [.str hd0, .str hd1]) n1
    have e1 := upd_same (H := H) (a := L1) (o := .lst [.str hd0, .str hd1])
    show tSeq _ _ _ _ (upd H L1 (.lst [.str hd0, .str hd1]))
    generalize upd H L1 (.lst [.str hd0, .str hd1]) = H1 at s1 e1 ⊢
    refine ⟨.ref L1, rfl, L1, _, 0, .str hd0, rfl, rfl, SqL.of e1, atI_nat (j := 0) rfl, hd0, "   ", rfl, rfl, by decide +kernel, ?_⟩
    refine ⟨.ref L1, rfl, L1, _, 0, .str hd0, rfl, rfl, SqL.of e1, atI_nat (j := 0) rfl, hd0, " x", rfl, rfl, by decide +kernel, ?_⟩
    refine ⟨.ref L1, rfl, L1, _, 1, .str hd1, rfl, rfl, SqL.of e1, atI_nat (j := 1) rfl, " ", hd1, rfl, rfl, by decide +kernel, ?_⟩
    refine ⟨.ref L1, rfl, L1, _, 0, .str hd0, rfl, rfl, SqL.of e1, atI_nat (j := 0) rfl, 1, rfl, -1, rfl, hd0, rfl, by decide +kernel, ?_⟩
    refine ⟨.ref L1, rfl, L1, _, 0, .str hd0, rfl, rfl, SqL.of e1, atI_nat (j := 0) rfl, hd0, "\t", rfl, rfl, by decide +kernel, ?_⟩
    refine ⟨.ref L1, rfl, L1, _, 1, .str hd1, rfl, rfl, SqL.of e1, atI_nat (j := 1) rfl, hd1, " ", rfl, rfl, by decide +kernel, ?_⟩
    refine ⟨by show 6 ≤ sizeLine; decide, fun L2 n2 => ?_⟩
    have s2 := same_new (o := .lst [.str (hd0 ++ "   "), .str (hd0 ++ " x"), .str (" " ++ hd1), .str (cutS hd0 none (some (-1))), .str (hd0 ++ "\t"), .str (hd1 ++ " ")]) n2
    have e2 := upd_same (H := H1) (a := L2) (o := .lst [.str (hd0 ++ "   "), .str (hd0 ++ " x"), .str (" " ++ hd1), .str (cutS hd0 none (some (-1))), .str (hd0 ++ "\t"), .str (hd1 ++ " ")])
    generalize upd H1 L2 (.lst [.str (hd0 ++ "   "), .str (hd0 ++ " x"), .str (" " ++ hd1), .str (cutS hd0 none (some (-1))), .str (hd0 ++ "\t"), .str (hd1 ++ " ")]) = H2 at s2 e2 ⊢
    have e12 := s2 _ _ e1
    refine ⟨.ref D, rfl, .ref L1, rfl, L1, 3, _, rfl, rfl, e12, by decide, by decide, by show 6 ≤ sizeLine; decide, fun p1 np1 => ⟨.ref L2, rfl, p1, L2, _, _, rfl, rfl, upd_same, same_new np1 _ _ e2, by show 12 ≤ sizeLine; decide, fun p2 np2 => ?_⟩⟩
    have s3 := (same_new (o := .lst (List.replicate (Int.toNat 3) [V.str hd0, .str hd1]).flatten) np1).trans (same_new (o := .lst ((List.replicate (Int.toNat 3) [V.str hd0, .str hd1]).flatten ++ [.str (hd0 ++ "   "), .str (hd0 ++ " x"), .str (" " ++ hd1), .str (cutS hd0 none (some (-1))), .str (hd0 ++ "\t"), .str (hd1 ++ " ")])) np2)
    have e3 := upd_same (H := upd H2 p1 (.lst (List.replicate (Int.toNat 3) [V.str hd0, .str hd1]).flatten)) (a := p2) (o := .lst ((List.replicate (Int.toNat 3) [V.str hd0, .str hd1]).flatten ++ [.str (hd0 ++ "   "), .str (hd0 ++ " x"), .str (" " ++ hd1), .str (cutS hd0 none (some (-1))), .str (hd0 ++ "\t"), .str (hd1 ++ " ")]))
    generalize upd (upd H2 p1 (.lst (List.replicate (Int.toNat 3) [V.str hd0, .str hd1]).flatten)) p2 (.lst ((List.replicate (Int.toNat 3) [V.str hd0, .str hd1]).flatten ++ [.str (hd0 ++ "   "), .str (hd0 ++ " x"), .str (" " ++ hd1), .str (cutS hd0 none (some (-1))), .str (hd0 ++ "\t"), .str (hd1 ++ " ")])) = H3 at s3 e3 ⊢
    refine ⟨.ref L1, rfl, L1, _, 0, .str hd0, rfl, rfl, SqL.of (s3 _ _ e12), atI_nat (j := 0) rfl, hd0, "E", rfl, rfl, by decide +kernel, by show 3 ≤ sizeLine; decide, fun L3 n3 => ?_⟩
    refine ⟨p2, L3, _, _, rfl, rfl, same_new n3 _ _ e3, upd_same, by show 15 ≤ sizeLine; decide, fun p3 np3 => ?_⟩
    have s13 := (s1.trans (s2.trans s3)).trans ((same_new (o := .lst [V.str "traceback (most recent call last):", .str "x", .str (hd0 ++ "E")]) n3).trans (same_new (o := .lst (menuH.map V.str)) np3))
    have e4 : (upd (upd H3 L3 (.lst [V.str "traceback (most recent call last):", .str "x", .str (hd0 ++ "E")])) p3 (.lst (menuH.map V.str))) p3 = some (.lst (menuH.map V.str)) := upd_same
    obtain ⟨⟨_, eD⟩, ⟨_, eA⟩, _⟩ := dr.tracked
    have np := ((s1.trans (s2.trans s3)).trans (same_new (o := .lst [V.str "traceback (most recent call last):", .str "x", .str (hd0 ++ "E")]) n3)).free np3
    refine ⟨D, A1, B, p3, n, menuH.map V.str, rfl, dr.same s13, by omega, .inl e4, (ne_of_none eD np).symm, (ne_of_none eA np).symm, by decide, by decide, fun i v H' hi dr' k' => ?_⟩
    obtain ⟨x, hx, rfl⟩ := List.mem_map.mp (List.mem_of_getElem? hi)
    exact k x H' hx dr' fun b o e n1 n2 => k' b o (s13 _ _ e) n1 n2
def sp_law (K : PySem.W.Frag) : Sp := fun vs H Q _ => ∃ (a : Addr) (ns : List Int), vs = [.ref a] ∧ SqL K H a (ns.map V.int) ∧ ns.length ≤ 63 ∧ ∀ H', Q (.bl true) H'
def menuB : List Str := ["    ...", "  File a", "E: m", "9", "_x", "<BLANKLINE>", "-a", "a.b.C", "", " ", "Z", "z", "0 0", "...", "(x)"]
theorem menuH_ok : ∀ x ∈ menuH, x.length ≤ 60 ∧ (∀ c ∈ tl x, c < 1114112 ∧ c ≠ 10 ∧ c ≠ 13) ∧ bg x "..." = false ∧ bg x ">>>" = false := by decide +kernel
theorem menuB_ok : ∀ x ∈ menuB, x.length ≤ 60 ∧ (∀ c ∈ tl x, c < 1114112 ∧ c ≠ 9 ∧ c ≠ 10 ∧ c ≠ 13) ∧ bg x ">>>" = false := by decide +kernel
/-- lines as the law draws them -/
structure Lns (x : Str) (r : List (List Nat)) : Prop where
  hd : x ∈ menuH
  rs : ∀ l ∈ r, ∃ y ∈ menuB, l = tl y
  len : r.length ≤ 6
theorem Lns.all {x : Str} {r : List (List Nat)} (h : Lns x r) : ∀ l ∈ tl x :: r, l.length ≤ 60 ∧ ∀ c ∈ l, c < 1114112 ∧ c ≠ 10 ∧ c ≠ 13 := fun l hl => by
  rcases List.mem_cons.mp hl with rfl | hl
  · have m := menuH_ok x h.hd
    exact ⟨by rw [← len_tl]; exact m.1, m.2.1⟩
  · obtain ⟨y, hy, rfl⟩ := h.rs l hl
    have m := menuB_ok y hy
    exact ⟨by rw [← len_tl]; exact m.1, fun c hc => ⟨(m.2.1 c hc).1, (m.2.1 c hc).2.2.1, (m.2.1 c hc).2.2.2⟩⟩
theorem ten_mk : ("\n" : Str) = mk [10] := ext_tl (by decide +kernel)
theorem tl_joinN (ls : List (List Nat)) : tl (Txt.join "\n" (ls.map mk)) = joinL [10] ls := by
  rw [ten_mk, join_mk]
  rfl
theorem join_short {ls : List (List Nat)} (hn : ls ≠ []) (h : ∀ l ∈ ls, l.length ≤ 60) (hl : ls.length ≤ 7) : (joinL [10] ls).length ≤ 500 := by
  have a := joinL_len [10] hn
  have b := sum_le_of h
  have e1 : ([10] : List Nat).length = 1 := rfl
  rw [e1] at a
  omega
theorem join_size {ls : List (List Nat)} (h : ∀ l ∈ ls, l.length ≤ 60) (hl : ls.length ≤ 7) : ((ls.map mk).map (·.length)).sum + (ls.map mk).length * ("\n" : Str).length ≤ 16777216 := by
  have b := sum_le_of h
  have e1 : ("\n" : Str).length = 1 := rfl
  rw [e1, List.map_map, List.length_map]
  show (ls.map (·.length)).sum + _ ≤ _
  omega
theorem join_end : ∀ ls : List (List Nat), ls ≠ [] → joinL [10] ls ++ [10] = joinL [10] (ls ++ [[]])
  | [], h => absurd rfl h
  | [a], _ => by
    show a ++ [10] = a ++ ([10] ++ [])
    rfl
  | a :: b :: r, _ => by
    rw [List.cons_append, joinL_more (ps := b :: r) _ _ (List.cons_ne_nil b r), joinL_more (ps := (b :: r) ++ [[]]) _ _ (by simp), ← join_end (b :: r) (List.cons_ne_nil b r), List.append_assoc, List.append_assoc]
theorem Sc_opt : ∀ o, Sc (optV o)
  | none => .inl rfl
  | some _ => .inr ⟨_, rfl⟩
theorem errL_len {ls : List (List Nat)} {l : List Nat} (h : ∀ l ∈ ls, l.length ≤ 60) (hl : ls.length ≤ 7) (e : errL ls = some l) : l.length ≤ 500 := by
  cases ls with
  | nil => cases e
  | cons a r =>
    unfold errL at e
    dsimp only at e
    split at e
    · have sub : (r.dropWhile fun l => !wordS l).Sublist r := List.dropWhile_sublist _
      have s1 := sum_le_of fun l hl' => h l (List.mem_cons_of_mem _ (sub.subset hl'))
      have s2 := sub.length_le
      generalize r.dropWhile _ = d at e s1 s2
      rw [List.length_cons] at hl
      cases d with
      | nil => cases e
      | cons b d =>
        rw [flatO_some (by simp)] at e
        rw [← Option.some.inj e, flat_len]
        omega
    · cases e
theorem cut_last (l : List Nat) : cutS (mk l) none (some (-1 : Int)) = mk l.dropLast := by
  refine ext_tl ?_
  show (l.drop (HT.sIx (mk l).length 0 none)).take (HT.sIx (mk l).length (mk l).length (some (-1 : Int)) - HT.sIx (mk l).length 0 none) = l.dropLast
  rw [HT.sIx_none, List.drop_zero, Nat.sub_zero, List.dropLast_eq_take, mk_len]
  show l.take (if (-1 : Int) < 0 then ((-1 : Int) + (l.length : Int)).toNat else min (-1 : Int).toNat l.length) = _
  rw [if_pos (by decide)]
  congr 1
  omega
theorem eqv_strs : ∀ xs ys : List Str, PyData.eqvAll (xs.map PyData.str) (ys.map PyData.str) = decide (xs = ys)
  | [], [] => by simp [PyData.eqvAll]
  | [], _ :: _ => by simp [PyData.eqvAll]
  | _ :: _, [] => by simp [PyData.eqvAll]
  | x :: xs, y :: ys => by
    simp only [List.map_cons, PyData.eqvAll, PyData.eqv, eqv_strs xs ys]
    rw [Bool.eq_iff_iff]
    simp
theorem one_of {x : Str} {r : List (List Nat)} (h : Lns x r) (h9 : (9 : Nat) ∉ tl x) (hf : ∀ l ∈ tl x :: r, spaces l = false) : One (">>> x\n" ++ Txt.join "\n" ((tl x :: r).map mk)) (tl x :: r) := by
  have n9 : ∀ l ∈ tl x :: r, ∀ c ∈ l, c ≠ 9 := fun l hl c hc => by
    rcases List.mem_cons.mp hl with rfl | hl
    · exact fun e => h9 (e ▸ hc)
    · obtain ⟨y, hy, rfl⟩ := h.rs l hl
      exact ((menuB_ok y hy).2.1 c hc).2.1
  have js := join_short (ls := tl x :: r) (by simp) (fun l hl => (h.all l hl).1) (by rw [List.length_cons]; have := h.len; omega)
  have e0 : tl (">>> x\n" : Str) = X0 ++ [10] := by decide +kernel
  refine ⟨?_, by simp, fun l hl c hc => ⟨n9 l hl c hc, ((h.all l hl).2 c hc).2.1, ((h.all l hl).2 c hc).2.2⟩, fun l hl => ⟨?_, ?_⟩, fun l hl => ?_, ?_, by rw [List.length_cons]; have := h.len; omega⟩
  · rw [tl_append, tl_joinN, e0, joinL_more (ps := tl x :: r) _ _ (by simp), List.append_assoc]
  · rw [nine_spaces (n9 l hl)]
    exact hf l hl
  · rcases List.mem_cons.mp hl with rfl | hl
    · rw [mk_tl']
      exact (menuH_ok x h.hd).2.2.2
    · obtain ⟨y, hy, rfl⟩ := h.rs l hl
      rw [mk_tl']
      exact (menuB_ok y hy).2.2
  · cases hl
    rw [mk_tl']
    exact (menuH_ok x h.hd).2.2.1
  · rw [tl_append, tl_joinN, e0, List.length_append]
    have : (X0 ++ [10]).length = 6 := rfl
    omega
theorem ok_law {f : Addr} {fd : FuncData} {dvs : List V} (F : Fn K "law" s_law dvs f fd) {C_Example : Addr} (T_Example : Txt_Example K mg C_Example) (O_law_draws : Own P w K mg base "_law_draws" 1 ["script"] [] (sp_law_draws K)) (O_law_head : Own P w K mg base "_law_head" 4 ["draws"] [] (sp_law_head)) (O_law_take : Own P w K mg base "_law_take" 2 ["draws", "size"] [] (sp_law_take)) (O_law_pick : Own P w K mg base "_law_pick" 3 ["draws", "things"] [] (sp_law_pick)) (O_law_error : Own P w K mg base "_law_error" 1 ["lines"] [] (sp_law_error)) (O_law_same : Own P w K mg base "_law_same" 2 ["found", "due"] [] (sp_law_same)) (O_error_of : Own P w K mg base "error_of" 2 ["want"] [] (sp_error_of)) (O_examples_of : Own P w K mg base "examples_of" 8 ["text"] [] (sp_examples_of C_Example)) (m_range : mg "range" = none) : FnOk P w K mg base CX0 9 f fd ["script"] (sp_law K) := by
  refine Fn.okN F sc_law (fun vs H Q E h => ?_) (fun cdv A outer s H vs Q E hr h => ?_)
  · obtain ⟨_, _, rfl, _⟩ := h
    rfl
  · obtain ⟨a, ns, rfl, hS, hlen, k⟩ := h
    refine ⟨_, (pss_cons (ps_set (i := 1) sc_law.nd rfl (.inl rfl) (pe_own O_law_draws (hr.mono (by decide)) (by rfl) (pa_cons (pv 0) pa_nil)))
      (pss_cons (ps_for PassesOwn.never rfl (pi_range1 rfl m_range (pa_cons pe_int pa_nil)) (pg_name (i := 2) sc_law.nd rfl (.inl rfl))
          (pss_cons (ps_set (i := 3) sc_law.nd rfl (.inl rfl) (pe_lst (pa_cons (pe_own O_law_head (hr.mono (by decide)) (by rfl) (pa_cons (pv 1) pa_nil)) pa_nil)))
            (pss_cons (ps_for PassesOwn.never rfl (pi_range1 rfl m_range (pa_cons (pe_own O_law_take (hr.mono (by decide)) (by rfl) (pa_cons (pv 1) (pa_cons pe_int pa_nil))) pa_nil)) (pg_name (i := 4) sc_law.nd rfl (.inl rfl))
                (pss_cons (ps_set (i := 5) sc_law.nd rfl (.inl rfl) (pe_lst (pa_cons pe_str (pa_cons pe_str (pa_cons pe_str (pa_cons pe_str (pa_cons pe_str (pa_cons pe_str (pa_cons pe_str (pa_cons pe_str (pa_cons pe_str (pa_cons pe_str (pa_cons pe_str (pa_cons pe_str pa_nil))))))))))))))
                  (pss_one (ps_expr (pe_bm PySem.F.plainAttrs_list PySem.F.slot_list_append PySem.F.type_list_append mt_append (pv 3) (pa_cons (pe_own O_law_pick (hr.mono (by decide)) (by rfl) (pa_cons (pv 1) (pa_cons (pe_op op_cat (pv 5) (pe_lst (pa_cons pe_str (pa_cons pe_str (pa_cons pe_str pa_nil))))) pa_nil))) pa_nil))))))
            (pss_cons (ps_for PassesOwn.never rfl (pi_tup (pe_tup (pa_cons pe_str (pa_cons pe_str pa_nil)))) (pg_name (i := 6) sc_law.nd rfl (.inl rfl))
                (pss_cons (ps_set (i := 7) sc_law.nd rfl (.inl rfl) (pe_own O_law_error (hr.mono (by decide)) (by rfl) (pa_cons (pv 3) pa_nil)))
                  (pss_cut (ps_if (PW.pt (pw_and (pt_cmpR op_notN (pv 7) pe_non (nomark _)) (pw_and1 (pt_cmpR op_eq (pv 6) pe_str (nomark _)))))
                      (pss_one (ps_set (i := 7) sc_law.nd rfl (.inl rfl) (pe_slice sl_str (pv 7) po_none (po_some (pe_un un_neg pe_int)))))
                      pss_nil)
                  (pss_one (ps_if (pt_not (pt_val (pe_own O_law_same (hr.mono (by decide)) (by rfl) (pa_cons (pe_own O_error_of (hr.mono (by decide)) (by rfl) (pa_cons (pe_op op_add_str (pe_m1 PySem.F.slot_str_join PySem.F.type_str_join mt_join pe_str (pv 3)) (pv 6)) pa_nil)) (pa_cons (pv 7) pa_nil)))))
                      (pss_one (ps_ret pe_bl))
                      pss_nil)))))
            (pss_cons (ps_setLc (i := 8) (own := [("line", 10)]) (g := gName 10) (by rfl) sc_law.nd rfl rfl (sw_true rfl rfl rfl (by decide +kernel)) (pi_list (pv 3)) (blkOk_by (own := [("line", 10)]) (N := ["script", "draws", "turn", "lines", "k", "some", "end", "due", "want", "found", "line", "one"]) (sc := defScope s_law) (by decide +kernel)) (fun _ _ _ _ _ => (pg_name (i := 10) sc_law.nd rfl (.inl rfl))) (fun _ _ _ _ _ => (pts_one (pt_cmpR op_ne (pe_m1 PySem.F.slot_str_strip PySem.F.type_str_strip mt_stripChars (pv 10) pe_str) pe_str (nomark _)))) (fun _ _ _ _ _ => (pv 10)))
            (pss_one (ps_if (PW.pt (pw_and (pt_cmpR (op_eqD hr.units) (pv 8) (pv 3) (nomark _)) (pw_and (pt_cmpR op_ne (pe_slice sl_str (pe_ix ix_list (pv 3) pe_int (fun _ _ => rfl)) po_none (po_some pe_int)) pe_str (nomark _)) (pw_and1 (pt_cmpR op_notIn_sign pe_str (pe_ix ix_list (pv 3) pe_int (fun _ _ => rfl)) rfl)))))
                (pss_cons (ps_set (i := 9) sc_law.nd rfl (.inl rfl) (pe_own O_examples_of (hr.mono (by decide)) (by rfl) (pa_cons (pe_op op_add_str pe_str (pe_m1 PySem.F.slot_str_join PySem.F.type_str_join mt_join pe_str (pv 3))) pa_nil)))
                  (pss_one (ps_if (pt_not (pt_val (pe_own O_law_same (hr.mono (by decide)) (by rfl) (pa_cons (pe_lc (own := [("one", 11)]) (g := gName 11) (tt := tYes) (by rfl) sc_law.nd (pi_list (pv 9)) (blkOk_by (own := [("one", 11)]) (N := ["script", "draws", "turn", "lines", "k", "some", "end", "due", "want", "found", "line", "one"]) (sc := defScope s_law) (by decide +kernel)) (fun _ _ _ _ _ => (pg_name (i := 11) sc_law.nd rfl (.inl rfl))) (fun _ _ _ _ _ => pts_nil) (fun _ _ _ _ _ => (pe_fldK (K' := K) rfl (pv 11) rfl))) (pa_cons (pe_lst (pa_cons (pe_own O_law_error (hr.mono (by decide)) (by rfl) (pa_cons (pv 3) pa_nil)) pa_nil)) pa_nil)))))
                      (pss_one (ps_ret pe_bl))
                      pss_nil)))
                pss_nil)))))))
      (pss_one (ps_ret (pe_cmpR op_isN (pe_own O_error_of (hr.mono (by decide)) (by rfl) (pa_cons pe_str pa_nil)) pe_non (nomark _)))))), ?_⟩
    refine ⟨.ref a, rfl, a, ns, rfl, hS, hlen, fun H1 D A1 B s1 dr nD nA => ?_⟩
    refine ⟨16, rfl, by decide, by decide, for_range (n := 16) (fun i σ H2 => ∃ (n : Int) (v2 v3 v4 v5 v6 v7 v8 v9 : Option V), σ = [some (.ref a), some (.ref D), v2, v3, v4, v5, v6, v7, v8, v9, none, none] ∧ Drw H2 D A1 B n ∧ n ≤ 8 * i) ⟨0, _, _, _, _, _, _, _, _, rfl, dr, by omega⟩ ?_ ?_⟩
    · rintro i σ H2 hi ⟨n, v2, v3, v4, v5, v6, v7, v8, v9, rfl, dr, hn⟩
      refine ⟨.ref D, rfl, D, A1, B, n, rfl, dr, by omega, fun x H3 hx dr3 k3 => ⟨by show 1 ≤ sizeLine; decide, fun L nL => ?_⟩⟩
      obtain ⟨⟨_, eD⟩, ⟨_, eA⟩, ⟨_, eB⟩⟩ := dr3.tracked
      have LD : L ≠ D := (ne_of_none eD nL).symm
      have LA : L ≠ A1 := (ne_of_none eA nL).symm
      have LB : L ≠ B := (ne_of_none eB nL).symm
      have eL : (upd H3 L (.lst [.str x])) L = some (rowsV [tl x]) := by
        rw [upd_same]
        show some (HO.lst [V.str x]) = some (.lst [.str (mk (tl x))])
        rw [mk_tl']
      have dr3' := dr3.new (o := .lst [.str x]) nL
      generalize upd H3 L (.lst [.str x]) = H4 at eL dr3' ⊢
      refine ⟨.ref D, rfl, D, A1, B, n + 1, 7, rfl, dr3', by omega, by decide, by decide, fun t H5 r0 r1 dr5 k5 => ?_⟩
      refine ⟨t, rfl, by omega, by omega, for_range (n := t.toNat) (fun j σ H6 => ∃ (m : Int) (r : List (List Nat)) (v2 v4 v5 : Option V), σ = [some (.ref a), some (.ref D), v2, some (.ref L), v4, v5, v6, v7, v8, v9, none, none] ∧ H6 L = some (rowsV (tl x :: r)) ∧ r.length = j ∧ (∀ l ∈ r, ∃ y ∈ menuB, l = tl y) ∧ Drw H6 D A1 B m ∧ m ≤ n + 2 + j) ⟨n + 1 + 1, [], _, _, _, rfl, k5 _ _ eL LD LA, rfl, (by intro l h; cases h), dr5, by omega⟩ ?_ ?_⟩
      · rintro j σ H6 hj ⟨m, r, w2, w4, w5, rfl, eL6, lr, hr, dr6, hm⟩
        refine ⟨by show 12 ≤ sizeLine; decide, fun M nM => ⟨.ref L, rfl, .inl ⟨rfl, _, SqL.of (same_new nM _ _ eL6)⟩, .ref D, rfl, .ref M, rfl, by show 3 ≤ sizeLine; decide, fun M2 nM2 => ⟨M, M2, _, _, rfl, rfl, same_new nM2 _ _ upd_same, upd_same, by show 15 ≤ sizeLine; decide, fun M3 nM3 => ?_⟩⟩⟩
        have sM := ((same_new (o := .lst [V.str "    ...", .str "  File a", .str "E: m", .str "9", .str "_x", .str "<BLANKLINE>", .str "-a", .str "a.b.C", .str "", .str " ", .str "Z", .str "z"]) nM).trans (same_new (o := .lst [V.str "0 0", .str "...", .str "(x)"]) nM2))
        obtain ⟨⟨_, eD⟩, ⟨_, eA⟩, _⟩ := dr6.tracked
        have MD := (ne_of_none (sM _ _ eD) nM3).symm
        have MA := (ne_of_none (sM _ _ eA) nM3).symm
        have s3 := sM.trans (same_new (o := .lst (menuB.map V.str)) nM3)
        have drM := dr6.same s3
        have eLM := s3 _ _ eL6
        refine ⟨D, A1, B, M3, m, menuB.map V.str, rfl, drM, by omega, .inl upd_same, MD, MA, by decide, by decide, fun q v H7 hq dr7 k7 => ?_⟩
        obtain ⟨y, hy, rfl⟩ := List.mem_map.mp (List.mem_of_getElem? hq)
        have eL7 := k7 _ _ eLM LD LA
        refine ⟨L, _, _, rfl, rfl, eL7, by rw [List.length_map, List.length_map, List.length_cons, lr]; exact Nat.lt_of_le_of_lt (show j + 1 ≤ 100 by omega) (by decide), m + 1, r ++ [tl y], _, _, _, rfl, ?_, by rw [List.length_append, lr]; rfl, fun l hl => ?_, dr7.upd LD LA LB, by omega⟩
        · rw [upd_same]
          unfold rowsV
          rw [← List.cons_append, List.map_append, List.map_append]
          show some (HO.lst (((tl x :: r).map mk).map V.str ++ [V.str y])) = some (HO.lst (((tl x :: r).map mk).map V.str ++ [V.str (mk (tl y))]))
          rw [mk_tl']
        · rcases List.mem_append.mp hl with h | h
          · exact hr l h
          · exact ⟨y, hy, List.mem_singleton.mp h⟩
      rintro σ H6 ⟨m, r, w2, w4, w5, rfl, eL6, lr, hr, dr6, hm⟩
      have ln : Lns x r := ⟨hx, hr, by omega⟩
      have la := ln.all
      have lk' : ∀ l ∈ tl x :: r, l.length ≤ 60 := fun l hl => (la l hl).1
      have l7 : (tl x :: r).length ≤ 7 := by
        rw [List.length_cons]
        omega
      have hne : tl x :: r ≠ [] := by simp
      have lel : ∀ l ∈ tl x :: r, l.length ≤ 60 ∧ ∀ c ∈ l, c < 1114112 := fun l hl => ⟨(la l hl).1, fun c hc => ((la l hl).2 c hc).1⟩
      have h10 : Rows10 (tl x :: r) := fun l hl h => ((la l hl).2 10 h).2.1 rfl
      have hm' : m ≤ 8 * (i + 1) := by omega
      clear hn hm lr hr k3 k5
      refine ⟨by show 2 ≤ sizeLine; decide, fun E nE => ⟨E, rfl, ⟨_, SqT.of upd_same⟩, ?_⟩⟩
      have sE := same_new (o := .tup [.str "", .str "\n"]) nE
      refine for_tup (K := K) (a := E) (xs := [.str "", .str "\n"]) (fun j σ H7 => ∃ v6 v7 : Option V, σ = [some (.ref a), some (.ref D), w2, some (.ref L), w4, w5, v6, v7, v8, v9, none, none] ∧ Same (upd H6 E (.tup [.str "", .str "\n"])) H7) ⟨_, _, rfl, fun _ _ e => e⟩ (fun j σ H7 _ h => by obtain ⟨_, _, _, s⟩ := h; exact SqT.of (s _ _ upd_same)) ?_ ?_
      · rintro j v σ H7 hv ⟨u6, u7, rfl, s7⟩
        have eL7 := s7 _ _ (sE _ _ eL6)
        obtain ⟨e, init, last, rfl, hxe, hrow, hel, hdue⟩ : ∃ (e : Str) (init : List (List Nat)) (last : List Nat), v = .str e ∧ tl (Txt.join "\n" ((tl x :: r).map mk) ++ e) = joinL [10] (init ++ [last]) ∧ Rows10 (init ++ [last]) ∧ e.length ≤ 1 ∧ errP (keptOf init last) = if decide (V.str e = V.str "") = true then (errL (tl x :: r)).map List.dropLast else errL (tl x :: r) := by
          rcases j with _ | _ | j
          · cases hv
            have ei : (tl x :: r).dropLast ++ [(tl x :: r).getLast hne] = tl x :: r := List.dropLast_concat_getLast hne
            refine ⟨"", (tl x :: r).dropLast, (tl x :: r).getLast hne, rfl, ?_, by rw [ei]; exact h10, by decide +kernel, ?_⟩
            · have e0 : tl ("" : Str) = [] := by decide +kernel
              rw [ei, tl_append, e0, List.append_nil, tl_joinN]
            · rw [decide_eq_true rfl, if_pos rfl, err_open _ _ (by rw [ei]; exact h10), ei]
          · cases hv
            refine ⟨"\n", tl x :: r, [], rfl, ?_, ?_, by decide +kernel, ?_⟩
            · have e0 : tl ("\n" : Str) = [10] := by decide +kernel
              rw [tl_append, e0, tl_joinN, join_end _ hne]
            · intro l hl
              rcases List.mem_append.mp hl with h | h
              · exact h10 l h
              · rw [List.mem_singleton.mp h]
                exact nofun
            · have e1 : decide (V.str "\n" = V.str "") = false := by decide +kernel
              rw [e1, if_neg Bool.false_ne_true, ← err_shut]
              show errP ((tl x :: r).map (· ++ [10]) ++ []) = _
              rw [List.append_nil]
          · cases hv
        refine ⟨.ref L, rfl, L, tl x :: r, rfl, eL7, lel, by omega, fun H8 s8 => ⟨fun σ' H' => σ' = [some (.ref a), some (.ref D), w2, some (.ref L), w4, w5, some (.str e), some (optV (errP (keptOf init last))), v8, v9, none, none] ∧ H' = H8, ?_, ?_⟩⟩
        · refine ⟨_, rfl, rfl, _, rfl, ?_⟩
          rw [hdue]
          cases hL : errL (tl x :: r) with
          | none =>
            refine iteF (iteF ⟨?_, rfl⟩)
            cases decide (V.str e = V.str "") <;> rfl
          | some l =>
            refine iteT ⟨.str e, rfl, rfl, _, rfl, ?_⟩
            cases hd : decide (V.str e = V.str "") with
            | false => exact iteF ⟨rfl, rfl⟩
            | true =>
              refine iteT ⟨.str (mk l), rfl, 1, rfl, -1, rfl, mk l, rfl, by rw [mk_len]; have := errL_len lk' l7 hL; exact line_of (by omega), ?_, rfl⟩
              rw [cut_last]
              rfl
        rintro σ' H' ⟨rfl, rfl⟩
        have eL8 := s8 _ _ eL7
        have jl := join_short hne lk' l7
        rw [← tl_joinN, ← len_tl] at jl
        refine ⟨⟨_, rfl⟩, .ref L, rfl, "\n", L, (tl x :: r).map mk, rfl, rfl, .inl (SqL.of eL8), join_size lk' l7, .str e, rfl, _, _, rfl, rfl, line_of (by omega), _, init, last, rfl, hxe, hrow, ?_, fun H9 s9 => ⟨_, rfl, _, _, _, _, rfl, Sc_opt _, Sc_opt _, .inl ⟨rfl, rfl⟩, fun H10 s10 => ⟨_, rfl, ?_⟩⟩⟩
        · rw [len_tl, tl_append, List.length_append, ← len_tl, ← len_tl]
          omega
        rw [decide_eq_true rfl]
        exact iteF ⟨_, _, rfl, s7.trans (s8.trans (s9.trans s10))⟩
      rintro σ H7 ⟨u6, u7, rfl, s7⟩
      have eL7 := s7 _ _ (sE _ _ eL6)
      have dr7 := dr6.same (sE.trans s7)
      clear s7 sE nE
      refine ⟨.ref L, rfl, L, rfl, ⟨_, SqL.of eL7⟩, fun W nW => lc_list (K := K) (a := L) (xs := ((tl x :: r).map mk).map V.str) (fun i H8 => H8 W = some (rowsV (((tl x :: r).take i).filter fun l => !spaces l)) ∧ Same H7 H8) ⟨upd_same, same_new nW⟩ (fun i H8 _ h => SqL.of (h.2 _ _ eL7)) ?_ ?_⟩
      · rintro i v H8 hv ⟨eW, s8⟩
        obtain ⟨z, rfl, hz⟩ := str_at hv
        rw [List.getElem?_map] at hz
        obtain ⟨l, hl, rfl⟩ := Option.map_eq_some_iff.mp hz
        have gl := lk' l (List.mem_of_getElem? hl)
        have hi2 : i < (tl x :: r).length := (List.getElem?_eq_some_iff.mp hl).1
        refine ⟨rfl, .str (mk l), rfl, ⟨_, rfl⟩, mk l, " ", rfl, rfl, by rw [mk_len]; exact line_of (by omega), rfl, _, rfl, ?_⟩
        rw [strip_test, List.take_add_one, hl, List.filter_append]
        show ite ((!spaces l) = true) _ _
        cases hs : spaces l with
        | true =>
          refine iteF ⟨?_, s8⟩
          show H8 W = some (rowsV (_ ++ [l].filter fun l => !spaces l))
          rw [List.filter_cons_of_neg (by rw [hs]; decide), List.filter_nil, List.append_nil]
          exact eW
        | false =>
          have fl := List.length_filter_le (fun l => !spaces l) ((tl x :: r).take i)
          rw [List.length_take] at fl
          refine iteT ⟨.str (mk l), rfl, _, eW, ?_, ?_, fun b o e => ?_⟩
          · rw [List.length_map, List.length_map]
            exact Nat.lt_of_le_of_lt (show _ ≤ 7 by omega) (by decide)
          · rw [upd_same]
            show _ = some (rowsV (_ ++ [l].filter fun l => !spaces l))
            rw [List.filter_cons_of_pos (by rw [hs]; rfl), List.filter_nil]
            unfold rowsV
            rw [List.map_append, List.map_append]
            rfl
          · rw [upd_ne (ne_of_none e nW)]
            exact s8 b o e
      rintro H8 ⟨eW, s8⟩
      rw [List.length_map, List.length_map, List.take_length] at eW
      have eL8 := s8 _ _ eL7
      have dr8 := dr7.same s8
      have oks : ∀ ls : List (List Nat), (∀ l ∈ ls, l ∈ tl x :: r) → ∀ y ∈ ls.map mk, okS y := fun ls hs y hy => by
        obtain ⟨l, h, rfl⟩ := List.mem_map.mp hy
        exact okS_iff.mpr (lel l (hs l h)).2
      have fin : ∀ H' : Hp, Same H8 H' → ∀ v8 v9 : Option V, ∃ (n : Int) (v2 v3 v4 v5 v6 v7 v8' v9' : Option V), [some (V.ref a), some (.ref D), w2, some (.ref L), w4, w5, u6, u7, v8, v9, none, none] = [some (.ref a), some (.ref D), v2, v3, v4, v5, v6, v7, v8', v9', none, none] ∧ Drw H' D A1 B n ∧ n ≤ 8 * (i + 1 : Nat) := fun H' s v8 v9 => ⟨m, _, _, _, _, _, _, _, _, rfl, dr8.same s, by omega⟩
      refine ⟨.ref W, rfl, .ref L, rfl, _, _, .lst (SqL.of eW) (dp_strs _), .lst (SqL.of eL8) (dp_strs _), shaped_strs _ (oks _ fun l hl => (List.mem_filter.mp hl).1), shaped_strs _ (oks _ fun l hl => hl), _, rfl, ?_⟩
      rw [show PyData.eqv (.list ((((tl x :: r).filter fun l => !spaces l).map mk).map PyData.str)) (.list (((tl x :: r).map mk).map PyData.str)) = decide (((tl x :: r).filter fun l => !spaces l).map mk = (tl x :: r).map mk) by
        show PyData.eqvAll _ _ = _
        exact eqv_strs _ _]
      cases hfe : decide (((tl x :: r).filter fun l => !spaces l).map mk = (tl x :: r).map mk) with
      | false => exact iteF (iteF (fin _ (fun _ _ e => e) _ _))
      | true =>
        have hf : ∀ l ∈ tl x :: r, spaces l = false := fun l hl => by
          have e1 := congrArg (List.map tl) (of_decide_eq_true hfe)
          have mt : ∀ ls : List (List Nat), (ls.map mk).map tl = ls := fun ls => by
            rw [List.map_map]
            exact List.map_id _
          rw [mt, mt] at e1
          rw [← e1] at hl
          have := (List.mem_filter.mp hl).2
          cases hs : spaces l with
          | false => rfl
          | true =>
            rw [hs] at this
            cases this
        have lh : (mk (tl x)).length ≤ sizeLine := by
          rw [mk_len]
          have := lk' _ (List.mem_cons_self ..)
          exact line_of (by omega)
        refine iteT ⟨.ref L, rfl, L, _, 0, .str (mk (tl x)), rfl, rfl, SqL.of eL8, atI_nat (j := 0) rfl, 1, rfl, mk (tl x), rfl, lh, rfl, _, rfl, ?_⟩
        generalize (!decide (V.str (cutS (mk (tl x)) none (some 1)) = V.str " ")) = c1
        cases c1 with
        | false => exact iteF (iteF (fin _ (fun _ _ e => e) _ _))
        | true =>
          refine iteT ⟨.ref L, rfl, L, _, 0, .str (mk (tl x)), rfl, rfl, SqL.of eL8, atI_nat (j := 0) rfl, 9, mk (tl x), congrArg V.str tab_eq, rfl, _, rfl, ?_⟩
          cases h9 : decide (9 ∈ (mk (tl x)).cps.toList) with
          | true => exact iteF (fin _ (fun _ _ e => e) _ _)
          | false =>
            have n9 : (9 : Nat) ∉ tl x := of_decide_eq_false h9
            have on := one_of ln n9 hf
            have jl := join_short hne lk' l7
            rw [← tl_joinN, ← len_tl] at jl
            have e6 : (">>> x\n" : Str).length = 6 := by decide +kernel
            refine iteT ⟨⟨_, rfl⟩, .ref L, rfl, "\n", L, (tl x :: r).map mk, rfl, rfl, .inl (SqL.of eL8), join_size lk' l7, _, _, rfl, rfl, line_of (by omega), _, tl x :: r, rfl, on, fun H9 F q dx fs s9 nF eF eq lk => ?_⟩
            have eL9 := s9 _ _ eL8
            refine ⟨.ref F, rfl, F, rfl, ⟨_, SqL.of eF⟩, fun G nG => lc_list (K := K) (a := F) (xs := [.ref q]) (fun i H10 => H10 G = some (.lst ([optV (errP ((tl x :: r).map (· ++ [10])))].take i)) ∧ Same H9 H10) ⟨upd_same, same_new nG⟩ (fun i H10 _ h => SqL.of (h.2 _ _ eF)) ?_ ?_⟩
            · rintro i y H10 hi ⟨eG, s10⟩
              have ev : y = .ref q := List.mem_singleton.mp (List.mem_of_getElem? hi)
              have hi0 : i = 0 := by
                have : i < 1 := (List.getElem?_eq_some_iff.mp hi).1
                omega
              subst ev hi0
              refine ⟨rfl, ?_⟩
              unfold tYes
              show ite (true = true) _ _
              rw [if_pos rfl]
              refine ⟨.ref q, rfl, q, C_Example, dx, fs, _, rfl, s10 _ _ eq, T_Example.cl, T_Example.n_error, lk, _, eG, by show 0 < sizeLine; decide, upd_same, fun b o e => ?_⟩
              rw [upd_ne (ne_of_none e nG)]
              exact s10 b o e
            · rintro H10 ⟨eG, s10⟩
              refine ⟨.ref L, rfl, L, tl x :: r, rfl, s10 _ _ eL9, lel, by omega, fun H11 s11 => ⟨by show 1 ≤ sizeLine; decide, fun N nN => ?_⟩⟩
              have sN := same_new (o := .lst [optV (errL (tl x :: r))]) nN
              refine ⟨_, _, _, _, rfl, Sc_opt (errP ((tl x :: r).map (· ++ [10]))), Sc_opt (errL (tl x :: r)), .inr ⟨G, N, rfl, rfl, sN _ _ (s11 _ _ eG), upd_same⟩, fun H12 s12 => ⟨_, rfl, ?_⟩⟩
              rw [err_shut, decide_eq_true rfl]
              exact iteF (fin _ (s9.trans (s10.trans (s11.trans (sN.trans s12)))) _ _)
    · rintro σ H2 ⟨n, v2, v3, v4, v5, v6, v7, v8, v9, rfl, dr, hn⟩
      have e0 : tl ("" : Str) = joinL [10] ([] ++ [[]]) := by decide +kernel
      refine ⟨"", [], [], rfl, e0, ?_, by decide +kernel, fun H3 s3 => ⟨rfl, ?_⟩⟩
      · intro l hl
        rw [List.mem_singleton.mp hl]
        exact nofun
      · rw [show optV (errP (keptOf [] [])) = V.non from rfl, decide_eq_true rfl]
        exact k _
end
set_option maxHeartbeats 0
theorem all_mk {l : PySem.W.OpenLaw} {w : World} {K : PySem.W.Frag} {h : Heap} {mg : Str → Option Value} {fa : Addr} {f0 : Addr} {od0 an0 : Option Addr} {sl0 : Array (Option Value)} {oc0 kV0 dc0 pm0 cd0 ct0 : Value}
    {f1 : Addr} {od1 an1 : Option Addr} {sl1 : Array (Option Value)} {oc1 kV1 dc1 pm1 cd1 ct1 : Value}
    {f2 : Addr} {od2 an2 : Option Addr} {sl2 : Array (Option Value)} {oc2 kV2 dc2 pm2 cd2 ct2 : Value}
    {f3 : Addr} {od3 an3 : Option Addr} {sl3 : Array (Option Value)} {oc3 kV3 dc3 pm3 cd3 ct3 : Value}
    {f4 : Addr} {od4 an4 : Option Addr} {sl4 : Array (Option Value)} {oc4 kV4 dc4 pm4 cd4 ct4 : Value}
    {f5 : Addr} {od5 an5 : Option Addr} {sl5 : Array (Option Value)} {oc5 kV5 dc5 pm5 cd5 ct5 : Value}
    {f6 : Addr} {od6 an6 : Option Addr} {sl6 : Array (Option Value)} {oc6 kV6 dc6 pm6 cd6 ct6 : Value}
    {f7 : Addr} {od7 an7 : Option Addr} {sl7 : Array (Option Value)} {oc7 kV7 dc7 pm7 cd7 ct7 : Value}
    {f8 : Addr} {od8 an8 : Option Addr} {sl8 : Array (Option Value)} {oc8 kV8 dc8 pm8 cd8 ct8 : Value}
    {f9 : Addr} {od9 an9 : Option Addr} {sl9 : Array (Option Value)} {oc9 kV9 dc9 pm9 cd9 ct9 : Value}
    {f10 : Addr} {od10 an10 : Option Addr} {sl10 : Array (Option Value)} {oc10 kV10 dc10 pm10 cd10 ct10 : Value}
    {f11 : Addr} {od11 an11 : Option Addr} {sl11 : Array (Option Value)} {oc11 kV11 dc11 pm11 cd11 ct11 : Value}
    {f12 : Addr} {od12 an12 : Option Addr} {sl12 : Array (Option Value)} {oc12 kV12 dc12 pm12 cd12 ct12 : Value}
    {f13 : Addr} {od13 an13 : Option Addr} {sl13 : Array (Option Value)} {oc13 kV13 dc13 pm13 cd13 ct13 : Value}
    {f14 : Addr} {od14 an14 : Option Addr} {sl14 : Array (Option Value)} {oc14 kV14 dc14 pm14 cd14 ct14 : Value}
    {f15 : Addr} {od15 an15 : Option Addr} {sl15 : Array (Option Value)} {oc15 kV15 dc15 pm15 cd15 ct15 : Value}
    {f16 : Addr} {od16 an16 : Option Addr} {sl16 : Array (Option Value)} {oc16 kV16 dc16 pm16 cd16 ct16 : Value}
    {f17 : Addr} {od17 an17 : Option Addr} {sl17 : Array (Option Value)} {oc17 kV17 dc17 pm17 cd17 ct17 : Value}
    {f18 : Addr} {od18 an18 : Option Addr} {sl18 : Array (Option Value)} {oc18 kV18 dc18 pm18 cd18 ct18 : Value}
    {f19 : Addr} {od19 an19 : Option Addr} {sl19 : Array (Option Value)} {oc19 kV19 dc19 pm19 cd19 ct19 : Value}
    {f20 : Addr} {od20 an20 : Option Addr} {sl20 : Array (Option Value)} {oc20 kV20 dc20 pm20 cd20 ct20 : Value}
    {f21 : Addr} {od21 an21 : Option Addr} {sl21 : Array (Option Value)} {oc21 kV21 dc21 pm21 cd21 ct21 : Value}
    {f22 : Addr} {od22 an22 : Option Addr} {sl22 : Array (Option Value)} {oc22 kV22 dc22 pm22 cd22 ct22 : Value}
    {f23 : Addr} {od23 an23 : Option Addr} {sl23 : Array (Option Value)} {oc23 kV23 dc23 pm23 cd23 ct23 : Value}
    {f24 : Addr} {od24 an24 : Option Addr} {sl24 : Array (Option Value)} {oc24 kV24 dc24 pm24 cd24 ct24 : Value}
    {f25 : Addr} {od25 an25 : Option Addr} {sl25 : Array (Option Value)} {oc25 kV25 dc25 pm25 cd25 ct25 : Value}
    {f26 : Addr} {od26 an26 : Option Addr} {sl26 : Array (Option Value)} {oc26 kV26 dc26 pm26 cd26 ct26 : Value}
    {f27 : Addr} {od27 an27 : Option Addr} {sl27 : Array (Option Value)} {oc27 kV27 dc27 pm27 cd27 ct27 : Value}
    {f28 : Addr} {od28 an28 : Option Addr} {sl28 : Array (Option Value)} {oc28 kV28 dc28 pm28 cd28 ct28 : Value}
    {f29 : Addr} {od29 an29 : Option Addr} {sl29 : Array (Option Value)} {oc29 kV29 dc29 pm29 cd29 ct29 : Value}
    {f30 : Addr} {od30 an30 : Option Addr} {sl30 : Array (Option Value)} {oc30 kV30 dc30 pm30 cd30 ct30 : Value}
    {f31 : Addr} {od31 an31 : Option Addr} {sl31 : Array (Option Value)} {oc31 kV31 dc31 pm31 cd31 ct31 : Value}
    {f32 : Addr} {od32 an32 : Option Addr} {sl32 : Array (Option Value)} {oc32 kV32 dc32 pm32 cd32 ct32 : Value}
    {f33 : Addr} {od33 an33 : Option Addr} {sl33 : Array (Option Value)} {oc33 kV33 dc33 pm33 cd33 ct33 : Value}
    {f34 : Addr} {od34 an34 : Option Addr} {sl34 : Array (Option Value)} {oc34 kV34 dc34 pm34 cd34 ct34 : Value}
    {f35 : Addr} {od35 an35 : Option Addr} {sl35 : Array (Option Value)} {oc35 kV35 dc35 pm35 cd35 ct35 : Value}
    {tk35_0 : Tok}
    {T35 : Addr} {Tc35 : Value} {Td35 : Option Addr} {Tn35 : Nat} {Ts35 : Array (Option Value)}
    {C_Example : Addr}
    {t_AHEAD : Tok}
    {t_BLANKS : Tok}
    {t_FURTHER : Tok}
    {a_HEADERS : Addr} {ad_HEADERS : Option Addr} {an_HEADERS : Nat} {as_HEADERS : Array (Option Value)} {t_HEADERS0 t_HEADERS1 : Tok}
    {t_MARK : Tok}
    {t_PROMPT : Tok}
    {t_TAB : Tok} (X : K.In h) (G : h.Ns mainGlobals mg) (hfa : mg "law" = some (.ref fa))
    (a0 : PySem.W.nsIn K mainGlobals "kept_lines" = some (some (.ref f0))) (l0 : K.lookup f0 = some ⟨oc0, od0, .func (PySem.W.fnOf "kept_lines" "kept_lines" (defArgs s_kept_lines) (defBody s_kept_lines) (defScope s_kept_lines) .none kV0 dc0 pm0 an0 cd0 ct0), sl0⟩) (e0 : PySem.W.codeIn K cd0 "kept_lines" = true) (k0 : PySem.W.keepIn K (.ref f0) = true)
    (a1 : PySem.W.nsIn K mainGlobals "lines_of" = some (some (.ref f1))) (l1 : K.lookup f1 = some ⟨oc1, od1, .func (PySem.W.fnOf "lines_of" "lines_of" (defArgs s_lines_of) (defBody s_lines_of) (defScope s_lines_of) .none kV1 dc1 pm1 an1 cd1 ct1), sl1⟩) (e1 : PySem.W.codeIn K cd1 "lines_of" = true) (k1 : PySem.W.keepIn K (.ref f1) = true)
    (a2 : PySem.W.nsIn K mainGlobals "fed" = some (some (.ref f2))) (l2 : K.lookup f2 = some ⟨oc2, od2, .func (PySem.W.fnOf "fed" "fed" (defArgs s_fed) (defBody s_fed) (defScope s_fed) .none kV2 dc2 pm2 an2 cd2 ct2), sl2⟩) (e2 : PySem.W.codeIn K cd2 "fed" = true) (k2 : PySem.W.keepIn K (.ref f2) = true)
    (a3 : PySem.W.nsIn K mainGlobals "indent_of" = some (some (.ref f3))) (l3 : K.lookup f3 = some ⟨oc3, od3, .func (PySem.W.fnOf "indent_of" "indent_of" (defArgs s_indent_of) (defBody s_indent_of) (defScope s_indent_of) .none kV3 dc3 pm3 an3 cd3 ct3), sl3⟩) (e3 : PySem.W.codeIn K cd3 "indent_of" = true) (k3 : PySem.W.keepIn K (.ref f3) = true)
    (a4 : PySem.W.nsIn K mainGlobals "is_blank" = some (some (.ref f4))) (l4 : K.lookup f4 = some ⟨oc4, od4, .func (PySem.W.fnOf "is_blank" "is_blank" (defArgs s_is_blank) (defBody s_is_blank) (defScope s_is_blank) .none kV4 dc4 pm4 an4 cd4 ct4), sl4⟩) (e4 : PySem.W.codeIn K cd4 "is_blank" = true) (k4 : PySem.W.keepIn K (.ref f4) = true)
    (a5 : PySem.W.nsIn K mainGlobals "words_of" = some (some (.ref f5))) (l5 : K.lookup f5 = some ⟨oc5, od5, .func (PySem.W.fnOf "words_of" "words_of" (defArgs s_words_of) (defBody s_words_of) (defScope s_words_of) .none kV5 dc5 pm5 an5 cd5 ct5), sl5⟩) (e5 : PySem.W.codeIn K cd5 "words_of" = true) (k5 : PySem.W.keepIn K (.ref f5) = true)
    (a6 : PySem.W.nsIn K mainGlobals "begins" = some (some (.ref f6))) (l6 : K.lookup f6 = some ⟨oc6, od6, .func (PySem.W.fnOf "begins" "begins" (defArgs s_begins) (defBody s_begins) (defScope s_begins) .none kV6 dc6 pm6 an6 cd6 ct6), sl6⟩) (e6 : PySem.W.codeIn K cd6 "begins" = true) (k6 : PySem.W.keepIn K (.ref f6) = true)
    (a7 : PySem.W.nsIn K mainGlobals "cuts_of" = some (some (.ref f7))) (l7 : K.lookup f7 = some ⟨oc7, od7, .func (PySem.W.fnOf "cuts_of" "cuts_of" (defArgs s_cuts_of) (defBody s_cuts_of) (defScope s_cuts_of) .none kV7 dc7 pm7 an7 cd7 ct7), sl7⟩) (e7 : PySem.W.codeIn K cd7 "cuts_of" = true) (k7 : PySem.W.keepIn K (.ref f7) = true)
    (a8 : PySem.W.nsIn K mainGlobals "behind_source" = some (some (.ref f8))) (l8 : K.lookup f8 = some ⟨oc8, od8, .func (PySem.W.fnOf "behind_source" "behind_source" (defArgs s_behind_source) (defBody s_behind_source) (defScope s_behind_source) .none kV8 dc8 pm8 an8 cd8 ct8), sl8⟩) (e8 : PySem.W.codeIn K cd8 "behind_source" = true) (k8 : PySem.W.keepIn K (.ref f8) = true)
    (a9 : PySem.W.nsIn K mainGlobals "behind_expected" = some (some (.ref f9))) (l9 : K.lookup f9 = some ⟨oc9, od9, .func (PySem.W.fnOf "behind_expected" "behind_expected" (defArgs s_behind_expected) (defBody s_behind_expected) (defScope s_behind_expected) .none kV9 dc9 pm9 an9 cd9 ct9), sl9⟩) (e9 : PySem.W.codeIn K cd9 "behind_expected" = true) (k9 : PySem.W.keepIn K (.ref f9) = true)
    (a10 : PySem.W.nsIn K mainGlobals "refuse_wrong_lines" = some (some (.ref f10))) (l10 : K.lookup f10 = some ⟨oc10, od10, .func (PySem.W.fnOf "refuse_wrong_lines" "refuse_wrong_lines" (defArgs s_refuse_wrong_lines) (defBody s_refuse_wrong_lines) (defScope s_refuse_wrong_lines) .none kV10 dc10 pm10 an10 cd10 ct10), sl10⟩) (e10 : PySem.W.codeIn K cd10 "refuse_wrong_lines" = true) (k10 : PySem.W.keepIn K (.ref f10) = true)
    (a11 : PySem.W.nsIn K mainGlobals "refuse_wrong_indents" = some (some (.ref f11))) (l11 : K.lookup f11 = some ⟨oc11, od11, .func (PySem.W.fnOf "refuse_wrong_indents" "refuse_wrong_indents" (defArgs s_refuse_wrong_indents) (defBody s_refuse_wrong_indents) (defScope s_refuse_wrong_indents) .none kV11 dc11 pm11 an11 cd11 ct11), sl11⟩) (e11 : PySem.W.codeIn K cd11 "refuse_wrong_indents" = true) (k11 : PySem.W.keepIn K (.ref f11) = true)
    (a12 : PySem.W.nsIn K mainGlobals "require_flags" = some (some (.ref f12))) (l12 : K.lookup f12 = some ⟨oc12, od12, .func (PySem.W.fnOf "require_flags" "require_flags" (defArgs s_require_flags) (defBody s_require_flags) (defScope s_require_flags) .none kV12 dc12 pm12 an12 cd12 ct12), sl12⟩) (e12 : PySem.W.codeIn K cd12 "require_flags" = true) (k12 : PySem.W.keepIn K (.ref f12) = true)
    (a13 : PySem.W.nsIn K mainGlobals "directive_of" = some (some (.ref f13))) (l13 : K.lookup f13 = some ⟨oc13, od13, .func (PySem.W.fnOf "directive_of" "directive_of" (defArgs s_directive_of) (defBody s_directive_of) (defScope s_directive_of) .none kV13 dc13 pm13 an13 cd13 ct13), sl13⟩) (e13 : PySem.W.codeIn K cd13 "directive_of" = true) (k13 : PySem.W.keepIn K (.ref f13) = true)
    (a14 : PySem.W.nsIn K mainGlobals "directive_words" = some (some (.ref f14))) (l14 : K.lookup f14 = some ⟨oc14, od14, .func (PySem.W.fnOf "directive_words" "directive_words" (defArgs s_directive_words) (defBody s_directive_words) (defScope s_directive_words) .none kV14 dc14 pm14 an14 cd14 ct14), sl14⟩) (e14 : PySem.W.codeIn K cd14 "directive_words" = true) (k14 : PySem.W.keepIn K (.ref f14) = true)
    (a15 : PySem.W.nsIn K mainGlobals "options_of" = some (some (.ref f15))) (l15 : K.lookup f15 = some ⟨oc15, od15, .func (PySem.W.fnOf "options_of" "options_of" (defArgs s_options_of) (defBody s_options_of) (defScope s_options_of) .none kV15 dc15 pm15 an15 cd15 ct15), sl15⟩) (e15 : PySem.W.codeIn K cd15 "options_of" = true) (k15 : PySem.W.keepIn K (.ref f15) = true)
    (a16 : PySem.W.nsIn K mainGlobals "bare_of" = some (some (.ref f16))) (l16 : K.lookup f16 = some ⟨oc16, od16, .func (PySem.W.fnOf "bare_of" "bare_of" (defArgs s_bare_of) (defBody s_bare_of) (defScope s_bare_of) .none kV16 dc16 pm16 an16 cd16 ct16), sl16⟩) (e16 : PySem.W.codeIn K cd16 "bare_of" = true) (k16 : PySem.W.keepIn K (.ref f16) = true)
    (a17 : PySem.W.nsIn K mainGlobals "bare_line" = some (some (.ref f17))) (l17 : K.lookup f17 = some ⟨oc17, od17, .func (PySem.W.fnOf "bare_line" "bare_line" (defArgs s_bare_line) (defBody s_bare_line) (defScope s_bare_line) .none kV17 dc17 pm17 an17 cd17 ct17), sl17⟩) (e17 : PySem.W.codeIn K cd17 "bare_line" = true) (k17 : PySem.W.keepIn K (.ref f17) = true)
    (a18 : PySem.W.nsIn K mainGlobals "is_remark" = some (some (.ref f18))) (l18 : K.lookup f18 = some ⟨oc18, od18, .func (PySem.W.fnOf "is_remark" "is_remark" (defArgs s_is_remark) (defBody s_is_remark) (defScope s_is_remark) .none kV18 dc18 pm18 an18 cd18 ct18), sl18⟩) (e18 : PySem.W.codeIn K cd18 "is_remark" = true) (k18 : PySem.W.keepIn K (.ref f18) = true)
    (a19 : PySem.W.nsIn K mainGlobals "widened" = some (some (.ref f19))) (l19 : K.lookup f19 = some ⟨oc19, od19, .func (PySem.W.fnOf "widened" "widened" (defArgs s_widened) (defBody s_widened) (defScope s_widened) .none kV19 dc19 pm19 an19 cd19 ct19), sl19⟩) (e19 : PySem.W.codeIn K cd19 "widened" = true) (k19 : PySem.W.keepIn K (.ref f19) = true)
    (a20 : PySem.W.nsIn K mainGlobals "levelled" = some (some (.ref f20))) (l20 : K.lookup f20 = some ⟨oc20, od20, .func (PySem.W.fnOf "levelled" "levelled" (defArgs s_levelled) (defBody s_levelled) (defScope s_levelled) .none kV20 dc20 pm20 an20 cd20 ct20), sl20⟩) (e20 : PySem.W.codeIn K cd20 "levelled" = true) (k20 : PySem.W.keepIn K (.ref f20) = true)
    (a21 : PySem.W.nsIn K mainGlobals "parsed" = some (some (.ref f21))) (l21 : K.lookup f21 = some ⟨oc21, od21, .func (PySem.W.fnOf "parsed" "parsed" (defArgs s_parsed) (defBody s_parsed) (defScope s_parsed) .none kV21 dc21 pm21 an21 cd21 ct21), sl21⟩) (e21 : PySem.W.codeIn K cd21 "parsed" = true) (k21 : PySem.W.keepIn K (.ref f21) = true)
    (a22 : PySem.W.nsIn K mainGlobals "piece_at" = some (some (.ref f22))) (l22 : K.lookup f22 = some ⟨oc22, od22, .func (PySem.W.fnOf "piece_at" "piece_at" (defArgs s_piece_at) (defBody s_piece_at) (defScope s_piece_at) .none kV22 dc22 pm22 an22 cd22 ct22), sl22⟩) (e22 : PySem.W.codeIn K cd22 "piece_at" = true) (k22 : PySem.W.keepIn K (.ref f22) = true)
    (a23 : PySem.W.nsIn K mainGlobals "examples_of" = some (some (.ref f23))) (l23 : K.lookup f23 = some ⟨oc23, od23, .func (PySem.W.fnOf "examples_of" "examples_of" (defArgs s_examples_of) (defBody s_examples_of) (defScope s_examples_of) .none kV23 dc23 pm23 an23 cd23 ct23), sl23⟩) (e23 : PySem.W.codeIn K cd23 "examples_of" = true) (k23 : PySem.W.keepIn K (.ref f23) = true)
    (a24 : PySem.W.nsIn K mainGlobals "error_of" = some (some (.ref f24))) (l24 : K.lookup f24 = some ⟨oc24, od24, .func (PySem.W.fnOf "error_of" "error_of" (defArgs s_error_of) (defBody s_error_of) (defScope s_error_of) .none kV24 dc24 pm24 an24 cd24 ct24), sl24⟩) (e24 : PySem.W.codeIn K cd24 "error_of" = true) (k24 : PySem.W.keepIn K (.ref f24) = true)
    (a25 : PySem.W.nsIn K mainGlobals "is_word_sign" = some (some (.ref f25))) (l25 : K.lookup f25 = some ⟨oc25, od25, .func (PySem.W.fnOf "is_word_sign" "is_word_sign" (defArgs s_is_word_sign) (defBody s_is_word_sign) (defScope s_is_word_sign) .none kV25 dc25 pm25 an25 cd25 ct25), sl25⟩) (e25 : PySem.W.codeIn K cd25 "is_word_sign" = true) (k25 : PySem.W.keepIn K (.ref f25) = true)
    (a26 : PySem.W.nsIn K mainGlobals "_law_draws" = some (some (.ref f26))) (l26 : K.lookup f26 = some ⟨oc26, od26, .func (PySem.W.fnOf "_law_draws" "_law_draws" (defArgs s_law_draws) (defBody s_law_draws) (defScope s_law_draws) .none kV26 dc26 pm26 an26 cd26 ct26), sl26⟩) (e26 : PySem.W.codeIn K cd26 "_law_draws" = true) (k26 : PySem.W.keepIn K (.ref f26) = true)
    (a27 : PySem.W.nsIn K mainGlobals "_law_mixed" = some (some (.ref f27))) (l27 : K.lookup f27 = some ⟨oc27, od27, .func (PySem.W.fnOf "_law_mixed" "_law_mixed" (defArgs s_law_mixed) (defBody s_law_mixed) (defScope s_law_mixed) .none kV27 dc27 pm27 an27 cd27 ct27), sl27⟩) (e27 : PySem.W.codeIn K cd27 "_law_mixed" = true) (k27 : PySem.W.keepIn K (.ref f27) = true)
    (a28 : PySem.W.nsIn K mainGlobals "_law_take" = some (some (.ref f28))) (l28 : K.lookup f28 = some ⟨oc28, od28, .func (PySem.W.fnOf "_law_take" "_law_take" (defArgs s_law_take) (defBody s_law_take) (defScope s_law_take) .none kV28 dc28 pm28 an28 cd28 ct28), sl28⟩) (e28 : PySem.W.codeIn K cd28 "_law_take" = true) (k28 : PySem.W.keepIn K (.ref f28) = true)
    (a29 : PySem.W.nsIn K mainGlobals "_law_same" = some (some (.ref f29))) (l29 : K.lookup f29 = some ⟨oc29, od29, .func (PySem.W.fnOf "_law_same" "_law_same" (defArgs s_law_same0) (defBody s_law_same0) (defScope s_law_same0) .none kV29 dc29 pm29 an29 cd29 ct29), sl29⟩) (e29 : PySem.W.codeIn K cd29 "_law_same" = true) (k29 : PySem.W.keepIn K (.ref f29) = true)
    (a30 : PySem.W.nsIn K mainGlobals "_law_same" = some (some (.ref f30))) (l30 : K.lookup f30 = some ⟨oc30, od30, .func (PySem.W.fnOf "_law_same" "_law_same" (defArgs s_law_same) (defBody s_law_same) (defScope s_law_same) .none kV30 dc30 pm30 an30 cd30 ct30), sl30⟩) (e30 : PySem.W.codeIn K cd30 "_law_same" = true) (k30 : PySem.W.keepIn K (.ref f30) = true)
    (a31 : PySem.W.nsIn K mainGlobals "_law_pick" = some (some (.ref f31))) (l31 : K.lookup f31 = some ⟨oc31, od31, .func (PySem.W.fnOf "_law_pick" "_law_pick" (defArgs s_law_pick) (defBody s_law_pick) (defScope s_law_pick) .none kV31 dc31 pm31 an31 cd31 ct31), sl31⟩) (e31 : PySem.W.codeIn K cd31 "_law_pick" = true) (k31 : PySem.W.keepIn K (.ref f31) = true)
    (a32 : PySem.W.nsIn K mainGlobals "_law_error" = some (some (.ref f32))) (l32 : K.lookup f32 = some ⟨oc32, od32, .func (PySem.W.fnOf "_law_error" "_law_error" (defArgs s_law_error) (defBody s_law_error) (defScope s_law_error) .none kV32 dc32 pm32 an32 cd32 ct32), sl32⟩) (e32 : PySem.W.codeIn K cd32 "_law_error" = true) (k32 : PySem.W.keepIn K (.ref f32) = true)
    (a33 : PySem.W.nsIn K mainGlobals "_law_head" = some (some (.ref f33))) (l33 : K.lookup f33 = some ⟨oc33, od33, .func (PySem.W.fnOf "_law_head" "_law_head" (defArgs s_law_head) (defBody s_law_head) (defScope s_law_head) .none kV33 dc33 pm33 an33 cd33 ct33), sl33⟩) (e33 : PySem.W.codeIn K cd33 "_law_head" = true) (k33 : PySem.W.keepIn K (.ref f33) = true)
    (a34 : PySem.W.nsIn K mainGlobals "law" = some (some (.ref f34))) (l34 : K.lookup f34 = some ⟨oc34, od34, .func (PySem.W.fnOf "law" "law" (defArgs s_law) (defBody s_law) (defScope s_law) .none kV34 dc34 pm34 an34 cd34 ct34), sl34⟩) (e34 : PySem.W.codeIn K cd34 "law" = true) (k34 : PySem.W.keepIn K (.ref f34) = true)
    (a35 : PySem.W.findIn K (.ref C_Example) "__init__" = some (some (.ref f35))) (i35 : PySem.W.isFn K (.ref f35) = true) (l35 : K.lookup f35 = some ⟨oc35, od35, .func (PySem.W.fnOf "__init__" "Example.__init__" (defArgs s_Example_init) (defBody s_Example_init) (defScope s_Example_init) (.ref T35) kV35 dc35 pm35 an35 cd35 ct35), sl35⟩) (e35 : PySem.W.codeIn K cd35 "Example.__init__" = true) (k35 : PySem.W.keepIn K (.ref f35) = true)
    (t35 : K.lookup T35 = some ⟨Tc35, Td35, .seq #[.str "" tk35_0] Tn35, Ts35⟩)
    (aC_Example : PySem.W.nsIn K mainGlobals "Example" = some (some (.ref C_Example))) (pg_Example : PySem.W.plainGet K C_Example Str.empty = true) (hd_Example : PySem.W.hasDictIn K C_Example = true) (po_Example : PySem.W.plainOver K C_Example = true) (sa_Example : PySem.W.findIn K (.ref C_Example) "__setattr__" = some (some (.builtin "object.__setattr__"))) (mk_Example : PySem.W.makesIn K C_Example = true) (kc_Example : PySem.W.keepIn K (.ref C_Example) = true) (ha_Example : PySem.W.findIn K (.ref C_Example) "__class__" = some (some (.builtin "object.__class__"))) (hn_Example : PySem.W.specialIn K (.builtin "object.__class__") "__get__" = some (some (.builtin "getset_descriptor.__get__"))) (ht_Example : PySem.W.takesIn K (.builtin "object.__class__") = some true) (hm_Example : PySem.W.mroIn K C_Example (.type "object") = some true)
    (nf_Example_source : PySem.W.findIn K (.ref C_Example) "source" = some none)
    (nf_Example_want : PySem.W.findIn K (.ref C_Example) "want" = some none)
    (nf_Example_error : PySem.W.findIn K (.ref C_Example) "error" = some none)
    (nf_Example_line : PySem.W.findIn K (.ref C_Example) "line" = some none)
    (nf_Example_indent : PySem.W.findIn K (.ref C_Example) "indent" = some none)
    (nf_Example_options : PySem.W.findIn K (.ref C_Example) "options" = some none)
    (nf_Example_bare : PySem.W.findIn K (.ref C_Example) "bare" = some none)
    (y_AHEAD : PySem.W.nsIn K mainGlobals "AHEAD" = some (some (.int 4 t_AHEAD)))
    (y_BLANKS : PySem.W.nsIn K mainGlobals "BLANKS" = some (some (.str " \t" t_BLANKS)))
    (y_FURTHER : PySem.W.nsIn K mainGlobals "FURTHER" = some (some (.str "..." t_FURTHER)))
    (y_HEADERS : PySem.W.nsIn K mainGlobals "HEADERS" = some (some (.ref a_HEADERS))) (x_HEADERS : K.lookup a_HEADERS = some ⟨.type "tuple", ad_HEADERS, .seq #[.str "Traceback (most recent call last):" t_HEADERS0, .str "Traceback (innermost last):" t_HEADERS1] an_HEADERS, as_HEADERS⟩)
    (y_MARK : PySem.W.nsIn K mainGlobals "MARK" = some (some (.str "doctest:" t_MARK)))
    (y_PROMPT : PySem.W.nsIn K mainGlobals "PROMPT" = some (some (.str ">>>" t_PROMPT)))
    (y_TAB : PySem.W.nsIn K mainGlobals "TAB" = some (some (.int 8 t_TAB)))
    (z_all : PySem.W.nsIn K mainGlobals "all" = some none)
    (z_bool : PySem.W.nsIn K mainGlobals "bool" = some none)
    (z_dict : PySem.W.nsIn K mainGlobals "dict" = some none)
    (z_int : PySem.W.nsIn K mainGlobals "int" = some none)
    (z_isinstance : PySem.W.nsIn K mainGlobals "isinstance" = some none)
    (z_len : PySem.W.nsIn K mainGlobals "len" = some none)
    (z_list : PySem.W.nsIn K mainGlobals "list" = some none)
    (z_max : PySem.W.nsIn K mainGlobals "max" = some none)
    (z_min : PySem.W.nsIn K mainGlobals "min" = some none)
    (z_range : PySem.W.nsIn K mainGlobals "range" = some none)
    (z_tuple : PySem.W.nsIn K mainGlobals "tuple" = some none)
    (z_zip : PySem.W.nsIn K mainGlobals "zip" = some none)
    :
    ∃ fd : FuncData, (∀ (s : Shared) (v : Value), BindsTo s fd ⟨[v], []⟩ [("script", v)]) ∧ ∀ base : Heap, K.In base → base.Ns mainGlobals mg → FnOk l.prog w K mg base CX0 9 fa fd ["script"] (sp_law K) := by
  have e := hfa.symm.trans (PySem.W.mg_of X G a34)
  cases e
  have F0 : Fn K "kept_lines" s_kept_lines [] _ _ := Fn.mk' l0 e0 k0 (.inl ⟨rfl, rfl⟩)
  have F1 : Fn K "lines_of" s_lines_of [] _ _ := Fn.mk' l1 e1 k1 (.inl ⟨rfl, rfl⟩)
  have F2 : Fn K "fed" s_fed [] _ _ := Fn.mk' l2 e2 k2 (.inl ⟨rfl, rfl⟩)
  have F3 : Fn K "indent_of" s_indent_of [] _ _ := Fn.mk' l3 e3 k3 (.inl ⟨rfl, rfl⟩)
  have F4 : Fn K "is_blank" s_is_blank [] _ _ := Fn.mk' l4 e4 k4 (.inl ⟨rfl, rfl⟩)
  have F5 : Fn K "words_of" s_words_of [] _ _ := Fn.mk' l5 e5 k5 (.inl ⟨rfl, rfl⟩)
  have F6 : Fn K "begins" s_begins [] _ _ := Fn.mk' l6 e6 k6 (.inl ⟨rfl, rfl⟩)
  have F7 : Fn K "cuts_of" s_cuts_of [] _ _ := Fn.mk' l7 e7 k7 (.inl ⟨rfl, rfl⟩)
  have F8 : Fn K "behind_source" s_behind_source [] _ _ := Fn.mk' l8 e8 k8 (.inl ⟨rfl, rfl⟩)
  have F9 : Fn K "behind_expected" s_behind_expected [] _ _ := Fn.mk' l9 e9 k9 (.inl ⟨rfl, rfl⟩)
  have F10 : Fn K "refuse_wrong_lines" s_refuse_wrong_lines [] _ _ := Fn.mk' l10 e10 k10 (.inl ⟨rfl, rfl⟩)
  have F11 : Fn K "refuse_wrong_indents" s_refuse_wrong_indents [] _ _ := Fn.mk' l11 e11 k11 (.inl ⟨rfl, rfl⟩)
  have F12 : Fn K "require_flags" s_require_flags [] _ _ := Fn.mk' l12 e12 k12 (.inl ⟨rfl, rfl⟩)
  have F13 : Fn K "directive_of" s_directive_of [] _ _ := Fn.mk' l13 e13 k13 (.inl ⟨rfl, rfl⟩)
  have F14 : Fn K "directive_words" s_directive_words [] _ _ := Fn.mk' l14 e14 k14 (.inl ⟨rfl, rfl⟩)
  have F15 : Fn K "options_of" s_options_of [] _ _ := Fn.mk' l15 e15 k15 (.inl ⟨rfl, rfl⟩)
  have F16 : Fn K "bare_of" s_bare_of [] _ _ := Fn.mk' l16 e16 k16 (.inl ⟨rfl, rfl⟩)
  have F17 : Fn K "bare_line" s_bare_line [] _ _ := Fn.mk' l17 e17 k17 (.inl ⟨rfl, rfl⟩)
  have F18 : Fn K "is_remark" s_is_remark [] _ _ := Fn.mk' l18 e18 k18 (.inl ⟨rfl, rfl⟩)
  have F19 : Fn K "widened" s_widened [] _ _ := Fn.mk' l19 e19 k19 (.inl ⟨rfl, rfl⟩)
  have F20 : Fn K "levelled" s_levelled [] _ _ := Fn.mk' l20 e20 k20 (.inl ⟨rfl, rfl⟩)
  have F21 : Fn K "parsed" s_parsed [] _ _ := Fn.mk' l21 e21 k21 (.inl ⟨rfl, rfl⟩)
  have F22 : Fn K "piece_at" s_piece_at [] _ _ := Fn.mk' l22 e22 k22 (.inl ⟨rfl, rfl⟩)
  have F23 : Fn K "examples_of" s_examples_of [] _ _ := Fn.mk' l23 e23 k23 (.inl ⟨rfl, rfl⟩)
  have F24 : Fn K "error_of" s_error_of [] _ _ := Fn.mk' l24 e24 k24 (.inl ⟨rfl, rfl⟩)
  have F25 : Fn K "is_word_sign" s_is_word_sign [] _ _ := Fn.mk' l25 e25 k25 (.inl ⟨rfl, rfl⟩)
  have F26 : Fn K "_law_draws" s_law_draws [] _ _ := Fn.mk' l26 e26 k26 (.inl ⟨rfl, rfl⟩)
  have F27 : Fn K "_law_mixed" s_law_mixed [] _ _ := Fn.mk' l27 e27 k27 (.inl ⟨rfl, rfl⟩)
  have F28 : Fn K "_law_take" s_law_take [] _ _ := Fn.mk' l28 e28 k28 (.inl ⟨rfl, rfl⟩)
  have F29 : Fn K "_law_same" s_law_same0 [] _ _ := Fn.mk' l29 e29 k29 (.inl ⟨rfl, rfl⟩)
  have F30 : Fn K "_law_same" s_law_same [] _ _ := Fn.mk' l30 e30 k30 (.inl ⟨rfl, rfl⟩)
  have F31 : Fn K "_law_pick" s_law_pick [] _ _ := Fn.mk' l31 e31 k31 (.inl ⟨rfl, rfl⟩)
  have F32 : Fn K "_law_error" s_law_error [] _ _ := Fn.mk' l32 e32 k32 (.inl ⟨rfl, rfl⟩)
  have F33 : Fn K "_law_head" s_law_head [] _ _ := Fn.mk' l33 e33 k33 (.inl ⟨rfl, rfl⟩)
  have F34 : Fn K "law" s_law [] _ _ := Fn.mk' l34 e34 k34 (.inl ⟨rfl, rfl⟩)
  have F35 : FunD K "__init__" "Example.__init__" (defArgs s_Example_init) (defBody s_Example_init) (defScope s_Example_init) [.str ""] [] _ _ := ⟨⟨_, _, _, _, _, _, _, _, _, _, rfl, l35, e35, .inr ⟨by simp, T35, _, _, _, rfl, t35, rfl, (.cons ⟨_, rfl⟩ .nil)⟩, .inl rfl⟩, k35⟩
  have T_Example : Txt_Example K mg C_Example := ⟨⟨pg_Example, hd_Example, po_Example, sa_Example⟩, PySem.W.mg_of X G aC_Example, ha_Example, hn_Example, ht_Example, hm_Example, kit_self K C_Example, nf_Example_source, nf_Example_want, nf_Example_error, nf_Example_line, nf_Example_indent, nf_Example_options, nf_Example_bare⟩
  have m_all : mg "all" = none := PySem.W.mg_none_of X G z_all
  have m_bool : mg "bool" = none := PySem.W.mg_none_of X G z_bool
  have m_dict : mg "dict" = none := PySem.W.mg_none_of X G z_dict
  have m_int : mg "int" = none := PySem.W.mg_none_of X G z_int
  have m_isinstance : mg "isinstance" = none := PySem.W.mg_none_of X G z_isinstance
  have m_len : mg "len" = none := PySem.W.mg_none_of X G z_len
  have m_list : mg "list" = none := PySem.W.mg_none_of X G z_list
  have m_max : mg "max" = none := PySem.W.mg_none_of X G z_max
  have m_min : mg "min" = none := PySem.W.mg_none_of X G z_min
  have m_range : mg "range" = none := PySem.W.mg_none_of X G z_range
  have m_tuple : mg "tuple" = none := PySem.W.mg_none_of X G z_tuple
  have m_zip : mg "zip" = none := PySem.W.mg_none_of X G z_zip
  have c_AHEAD := PySem.W.mg_of X G y_AHEAD
  have c_BLANKS := PySem.W.mg_of X G y_BLANKS
  have c_FURTHER := PySem.W.mg_of X G y_FURTHER
  have c_HEADERS := PySem.W.mg_of X G y_HEADERS
  have q_HEADERS : ∀ H, SqT K H a_HEADERS (v_HEADERS.map V.str) := fun H => .inr ⟨_, _, _, x_HEADERS, rfl, rfl, by show 2 ≤ sizeLine; decide, (.cons ⟨_, rfl⟩ (.cons ⟨_, rfl⟩ .nil))⟩
  have c_MARK := PySem.W.mg_of X G y_MARK
  have c_PROMPT := PySem.W.mg_of X G y_PROMPT
  have c_TAB := PySem.W.mg_of X G y_TAB
  refine ⟨PySem.W.fnOf "law" "law" (defArgs s_law) (defBody s_law) (defScope s_law) .none kV34 dc34 pm34 an34 cd34 ct34, fun s v => .of_eq rfl, fun base _ _ => ?_⟩
  have O_kept_lines : Own l.prog w K mg base "kept_lines" 1 ["text"] [] (sp_kept_lines) := by
    exact ⟨_, _, [], ok_kept_lines F0, PySem.W.mg_of X G a0, F0.kp, F0.bindsN (ps := ["text"]) (fun _ _ _ _ _ _ us hl => match us, hl with | [_], _ => rfl), .nil⟩
  have O_fed : Own l.prog w K mg base "fed" 1 ["text"] [] (sp_fed) := by
    exact ⟨_, _, [], ok_fed F2, PySem.W.mg_of X G a2, F2.kp, F2.bindsN (ps := ["text"]) (fun _ _ _ _ _ _ us hl => match us, hl with | [_], _ => rfl), .nil⟩
  have O_indent_of : Own l.prog w K mg base "indent_of" 1 ["line"] [] (sp_indent_of) := by
    exact ⟨_, _, [], ok_indent_of F3 m_len, PySem.W.mg_of X G a3, F3.kp, F3.bindsN (ps := ["line"]) (fun _ _ _ _ _ _ us hl => match us, hl with | [_], _ => rfl), .nil⟩
  have O_is_blank : Own l.prog w K mg base "is_blank" 1 ["line"] [] (sp_is_blank) := by
    exact ⟨_, _, [], ok_is_blank F4 c_BLANKS, PySem.W.mg_of X G a4, F4.kp, F4.bindsN (ps := ["line"]) (fun _ _ _ _ _ _ us hl => match us, hl with | [_], _ => rfl), .nil⟩
  have O_words_of : Own l.prog w K mg base "words_of" 1 ["text"] [] (sp_words_of) := by
    exact ⟨_, _, [], ok_words_of F5, PySem.W.mg_of X G a5, F5.kp, F5.bindsN (ps := ["text"]) (fun _ _ _ _ _ _ us hl => match us, hl with | [_], _ => rfl), .nil⟩
  have O_begins : Own l.prog w K mg base "begins" 1 ["line", "prompt"] [] (sp_begins) := by
    exact ⟨_, _, [], ok_begins F6, PySem.W.mg_of X G a6, F6.kp, F6.bindsN (ps := ["line", "prompt"]) (fun _ _ _ _ _ _ us hl => match us, hl with | [_, _], _ => rfl), .nil⟩
  have O_refuse_wrong_indents : Own l.prog w K mg base "refuse_wrong_indents" 1 ["lines", "start", "end", "ahead"] [] (sp_refuse_wrong_indents) := by
    exact ⟨_, _, [], ok_refuse_wrong_indents F11 m_range, PySem.W.mg_of X G a11, F11.kp, F11.bindsN (ps := ["lines", "start", "end", "ahead"]) (fun _ _ _ _ _ _ us hl => match us, hl with | [_, _, _, _], _ => rfl), .nil⟩
  have O_require_flags : Own l.prog w K mg base "require_flags" 1 ["flags"] [] (sp_require_flags) := by
    exact ⟨_, _, [], ok_require_flags F12, PySem.W.mg_of X G a12, F12.kp, F12.bindsN (ps := ["flags"]) (fun _ _ _ _ _ _ us hl => match us, hl with | [_], _ => rfl), .nil⟩
  have O_directive_of : Own l.prog w K mg base "directive_of" 1 ["line"] [] (sp_directive_of) := by
    exact ⟨_, _, [], ok_directive_of F13 m_max c_BLANKS c_MARK, PySem.W.mg_of X G a13, F13.kp, F13.bindsN (ps := ["line"]) (fun _ _ _ _ _ _ us hl => match us, hl with | [_], _ => rfl), .nil⟩
  have O_widened : Own l.prog w K mg base "widened" 1 ["text"] [] (sp_widened) := by
    exact ⟨_, _, [], ok_widened F19 c_TAB, PySem.W.mg_of X G a19, F19.kp, F19.bindsN (ps := ["text"]) (fun _ _ _ _ _ _ us hl => match us, hl with | [_], _ => rfl), .nil⟩
  have O_is_word_sign : Own l.prog w K mg base "is_word_sign" 1 ["sign"] [] (sp_is_word_sign) := by
    exact ⟨_, _, [], ok_is_word_sign F25, PySem.W.mg_of X G a25, F25.kp, F25.bindsN (ps := ["sign"]) (fun _ _ _ _ _ _ us hl => match us, hl with | [_], _ => rfl), .nil⟩
  have O_law_draws : Own l.prog w K mg base "_law_draws" 1 ["script"] [] (sp_law_draws K) := by
    exact ⟨_, _, [], ok_law_draws F26, PySem.W.mg_of X G a26, F26.kp, F26.bindsN (ps := ["script"]) (fun _ _ _ _ _ _ us hl => match us, hl with | [_], _ => rfl), .nil⟩
  have O_law_mixed : Own l.prog w K mg base "_law_mixed" 1 ["seed", "k"] [] (sp_law_mixed) := by
    exact ⟨_, _, [], ok_law_mixed F27, PySem.W.mg_of X G a27, F27.kp, F27.bindsN (ps := ["seed", "k"]) (fun _ _ _ _ _ _ us hl => match us, hl with | [_, _], _ => rfl), .nil⟩
  have O_law_same0 : Own l.prog w K mg base "_law_same" 1 ["found", "due"] [] (sp_law_same0) := by
    exact ⟨_, _, [], ok_law_same0 F29 m_bool m_int m_isinstance m_list m_tuple, PySem.W.mg_of X G a29, F29.kp, F29.bindsN (ps := ["found", "due"]) (fun _ _ _ _ _ _ us hl => match us, hl with | [_, _], _ => rfl), .nil⟩
  have O_law_error : Own l.prog w K mg base "_law_error" 1 ["lines"] [] (sp_law_error) := by
    exact ⟨_, _, [], ok_law_error F32 m_len m_range, PySem.W.mg_of X G a32, F32.kp, F32.bindsN (ps := ["lines"]) (fun _ _ _ _ _ _ us hl => match us, hl with | [_], _ => rfl), .nil⟩
  have O_lines_of : Own l.prog w K mg base "lines_of" 2 ["text"] [] (sp_lines_of) := by
    exact ⟨_, _, [], ok_lines_of F1 O_kept_lines, PySem.W.mg_of X G a1, F1.kp, F1.bindsN (ps := ["text"]) (fun _ _ _ _ _ _ us hl => match us, hl with | [_], _ => rfl), .nil⟩
  have O_behind_source : Own l.prog w K mg base "behind_source" 2 ["lines", "at"] [] (sp_behind_source) := by
    exact ⟨_, _, [], ok_behind_source F8 O_begins m_len c_FURTHER, PySem.W.mg_of X G a8, F8.kp, F8.bindsN (ps := ["lines", "at"]) (fun _ _ _ _ _ _ us hl => match us, hl with | [_, _], _ => rfl), .nil⟩
  have O_behind_expected : Own l.prog w K mg base "behind_expected" 2 ["lines", "at"] [] (sp_behind_expected) := by
    exact ⟨_, _, [], ok_behind_expected F9 O_is_blank O_begins m_len c_PROMPT, PySem.W.mg_of X G a9, F9.kp, F9.bindsN (ps := ["lines", "at"]) (fun _ _ _ _ _ _ us hl => match us, hl with | [_, _], _ => rfl), .nil⟩
  have O_refuse_wrong_lines : Own l.prog w K mg base "refuse_wrong_lines" 2 ["lines", "cut"] [] (sp_refuse_wrong_lines) := by
    exact ⟨_, _, [], ok_refuse_wrong_lines F10 O_indent_of O_refuse_wrong_indents m_len m_range c_PROMPT, PySem.W.mg_of X G a10, F10.kp, F10.bindsN (ps := ["lines", "cut"]) (fun _ _ _ _ _ _ us hl => match us, hl with | [_, _], _ => rfl), .nil⟩
  have O_directive_words : Own l.prog w K mg base "directive_words" 2 ["line"] [] (sp_directive_words) := by
    exact ⟨_, _, [], ok_directive_words F14 O_words_of O_directive_of, PySem.W.mg_of X G a14, F14.kp, F14.bindsN (ps := ["line"]) (fun _ _ _ _ _ _ us hl => match us, hl with | [_], _ => rfl), .nil⟩
  have O_bare_line : Own l.prog w K mg base "bare_line" 2 ["line"] [] (sp_bare_line) := by
    exact ⟨_, _, [], ok_bare_line F17 O_directive_of c_BLANKS, PySem.W.mg_of X G a17, F17.kp, F17.bindsN (ps := ["line"]) (fun _ _ _ _ _ _ us hl => match us, hl with | [_], _ => rfl), .nil⟩
  have O_levelled : Own l.prog w K mg base "levelled" 2 ["text"] [] (sp_levelled) := by
    exact ⟨_, _, [], ok_levelled F20 O_widened O_is_blank O_indent_of m_min, PySem.W.mg_of X G a20, F20.kp, F20.bindsN (ps := ["text"]) (fun _ _ _ _ _ _ us hl => match us, hl with | [_], _ => rfl), .nil⟩
  have O_error_of : Own l.prog w K mg base "error_of" 2 ["want"] [] (sp_error_of) := by
    exact ⟨_, _, [], ok_error_of F24 O_kept_lines O_is_word_sign m_len m_range c_HEADERS q_HEADERS, PySem.W.mg_of X G a24, F24.kp, F24.bindsN (ps := ["want"]) (fun _ _ _ _ _ _ us hl => match us, hl with | [_], _ => rfl), .nil⟩
  have O_law_take : Own l.prog w K mg base "_law_take" 2 ["draws", "size"] [] (sp_law_take) := by
    exact ⟨_, _, [], ok_law_take F28 O_law_mixed m_len, PySem.W.mg_of X G a28, F28.kp, F28.bindsN (ps := ["draws", "size"]) (fun _ _ _ _ _ _ us hl => match us, hl with | [_, _], _ => rfl), .nil⟩
  have O_law_same : Own l.prog w K mg base "_law_same" 2 ["found", "due"] [] (sp_law_same) := by
    exact ⟨_, _, [], ok_law_same F30 O_law_same0 m_all m_bool m_int m_isinstance m_len m_list m_tuple m_zip, PySem.W.mg_of X G a30, F30.kp, F30.bindsN (ps := ["found", "due"]) (fun _ _ _ _ _ _ us hl => match us, hl with | [_, _], _ => rfl), .nil⟩
  have O_cuts_of : Own l.prog w K mg base "cuts_of" 3 ["lines"] [] (sp_cuts_of) := by
    exact ⟨_, _, [], ok_cuts_of F7 O_begins O_behind_source O_behind_expected m_len c_PROMPT, PySem.W.mg_of X G a7, F7.kp, F7.bindsN (ps := ["lines"]) (fun _ _ _ _ _ _ us hl => match us, hl with | [_], _ => rfl), .nil⟩
  have O_options_of : Own l.prog w K mg base "options_of" 3 ["source", "number"] [] (sp_options_of) := by
    exact ⟨_, _, [], ok_options_of F15 O_lines_of O_directive_words, PySem.W.mg_of X G a15, F15.kp, F15.bindsN (ps := ["source", "number"]) (fun _ _ _ _ _ _ us hl => match us, hl with | [_, _], _ => rfl), .nil⟩
  have O_bare_of : Own l.prog w K mg base "bare_of" 3 ["source"] [] (sp_bare_of) := by
    exact ⟨_, _, [], ok_bare_of F16 O_lines_of O_bare_line, PySem.W.mg_of X G a16, F16.kp, F16.bindsN (ps := ["source"]) (fun _ _ _ _ _ _ us hl => match us, hl with | [_], _ => rfl), .nil⟩
  have O_is_remark : Own l.prog w K mg base "is_remark" 3 ["source"] [] (sp_is_remark) := by
    exact ⟨_, _, [], ok_is_remark F18 O_lines_of O_is_blank m_all c_BLANKS, PySem.W.mg_of X G a18, F18.kp, F18.bindsN (ps := ["source"]) (fun _ _ _ _ _ _ us hl => match us, hl with | [_], _ => rfl), .nil⟩
  have O_law_pick : Own l.prog w K mg base "_law_pick" 3 ["draws", "things"] [] (sp_law_pick) := by
    exact ⟨_, _, [], ok_law_pick F31 O_law_take m_len, PySem.W.mg_of X G a31, F31.kp, F31.bindsN (ps := ["draws", "things"]) (fun _ _ _ _ _ _ us hl => match us, hl with | [_, _], _ => rfl), .nil⟩
  have O_law_head : Own l.prog w K mg base "_law_head" 4 ["draws"] [] (sp_law_head) := by
    exact ⟨_, _, [], ok_law_head F33 O_law_pick, PySem.W.mg_of X G a33, F33.kp, F33.bindsN (ps := ["draws"]) (fun _ _ _ _ _ _ us hl => match us, hl with | [_], _ => rfl), .nil⟩
  have O_Example_init : OwnC l.prog w K mg base "Example" C_Example 4 ["self", "source", "want", "error", "line", "indent", "options"] ["error", "line", "indent", "options"] 2 (sp_Example_init C_Example) := by
    exact ⟨_, _, _, ⟨mk_Example, a35, i35, kc_Example⟩, ok_Example_init F35 T_Example O_require_flags O_fed O_bare_of m_dict, ⟨fun s us ws X l1 l2 => match us, ws, l1, l2 with | [_, _, _], [_, _, _, _], _, _ => bnd_items X t35 rfl ⟨_, rfl, rfl⟩, fun r1 r2 => vals_app r1 r2⟩, PySem.W.mg_of X G aC_Example⟩
  have O_piece_at : Own l.prog w K mg base "piece_at" 6 ["lines", "cut"] [] (sp_piece_at C_Example) := by
    exact ⟨_, _, [], ok_piece_at F22 O_refuse_wrong_lines O_indent_of O_options_of O_is_remark O_Example_init O_error_of c_AHEAD, PySem.W.mg_of X G a22, F22.kp, F22.bindsN (ps := ["lines", "cut"]) (fun _ _ _ _ _ _ us hl => match us, hl with | [_, _], _ => rfl), .nil⟩
  have O_parsed : Own l.prog w K mg base "parsed" 7 ["text"] [] (sp_parsed C_Example) := by
    exact ⟨_, _, [], ok_parsed F21 T_Example O_levelled O_kept_lines O_lines_of O_cuts_of O_piece_at m_len, PySem.W.mg_of X G a21, F21.kp, F21.bindsN (ps := ["text"]) (fun _ _ _ _ _ _ us hl => match us, hl with | [_], _ => rfl), .nil⟩
  have O_examples_of : Own l.prog w K mg base "examples_of" 8 ["text"] [] (sp_examples_of C_Example) := by
    exact ⟨_, _, [], ok_examples_of F23 T_Example O_parsed m_isinstance, PySem.W.mg_of X G a23, F23.kp, F23.bindsN (ps := ["text"]) (fun _ _ _ _ _ _ us hl => match us, hl with | [_], _ => rfl), .nil⟩
  exact ok_law F34 T_Example O_law_draws O_law_head O_law_take O_law_pick O_law_error O_law_same O_error_of O_examples_of m_range
end Pq
open PySem PySem.W PyProof.Rows
set_option maxRecDepth 100000 in
set_option maxHeartbeats 0 in
theorem PySem.Challenge.cw_promptyard_k75_error_texts_holds : PySem.Challenge.rw_promptyard_k75_error_texts.Holds := by
  w_on; o_law; k_head; (case hw => w_witness2)
  k_fill
  refine L2.walk_of (l := PySem.Challenge.rw_promptyard_k75_error_texts) (n := 63) (k := 9) (x := "script") (CX := fun _ => L2.CX0) (sp := fun w => Pq.sp_law _) rfl (by decide) rfl ⟨rfl, by decide, by decide⟩ (fun w h Y => PySem.W.kIn_of Y) ?F (fun _ _ a ns hl _ hS => ⟨a, ns, rfl, hS, hl, fun _ => rfl⟩) (fun _ _ _ _ _ h => h)
  case F =>
    intro w mg fa h KX G hmg
    refine' Pq.all_mk KX G hmg ?a0 ?l0 ?e0 ?k0 ?a1 ?l1 ?e1 ?k1 ?a2 ?l2 ?e2 ?k2 ?a3 ?l3 ?e3 ?k3 ?a4 ?l4 ?e4 ?k4 ?a5 ?l5 ?e5 ?k5 ?a6 ?l6 ?e6 ?k6 ?a7 ?l7 ?e7 ?k7 ?a8 ?l8 ?e8 ?k8 ?a9 ?l9 ?e9 ?k9 ?a10 ?l10 ?e10 ?k10 ?a11 ?l11 ?e11 ?k11 ?a12 ?l12 ?e12 ?k12 ?a13 ?l13 ?e13 ?k13 ?a14 ?l14 ?e14 ?k14 ?a15 ?l15 ?e15 ?k15 ?a16 ?l16 ?e16 ?k16 ?a17 ?l17 ?e17 ?k17 ?a18 ?l18 ?e18 ?k18 ?a19 ?l19 ?e19 ?k19 ?a20 ?l20 ?e20 ?k20 ?a21 ?l21 ?e21 ?k21 ?a22 ?l22 ?e22 ?k22 ?a23 ?l23 ?e23 ?k23 ?a24 ?l24 ?e24 ?k24 ?a25 ?l25 ?e25 ?k25 ?a26 ?l26 ?e26 ?k26 ?a27 ?l27 ?e27 ?k27 ?a28 ?l28 ?e28 ?k28 ?a29 ?l29 ?e29 ?k29 ?a30 ?l30 ?e30 ?k30 ?a31 ?l31 ?e31 ?k31 ?a32 ?l32 ?e32 ?k32 ?a33 ?l33 ?e33 ?k33 ?a34 ?l34 ?e34 ?k34 ?a35 ?i35 ?l35 ?e35 ?k35 ?t35 ?aC_Example ?pg_Example ?hd_Example ?po_Example ?sa_Example ?mk_Example ?kc_Example ?ha_Example ?hn_Example ?ht_Example ?hm_Example ?nf_Example_source ?nf_Example_want ?nf_Example_error ?nf_Example_line ?nf_Example_indent ?nf_Example_options ?nf_Example_bare ?y_AHEAD ?y_BLANKS ?y_FURTHER ?y_HEADERS ?x_HEADERS ?y_MARK ?y_PROMPT ?y_TAB ?z_all ?z_bool ?z_dict ?z_int ?z_isinstance ?z_len ?z_list ?z_max ?z_min ?z_range ?z_tuple ?z_zip
    (case aC_Example => k_is)
    (case a0 => k_is)
    (case l0 => k_is)
    (case e0 => k_is)
    (case k0 => k_is)
    (case a1 => k_is)
    (case l1 => k_is)
    (case e1 => k_is)
    (case k1 => k_is)
    (case a2 => k_is)
    (case l2 => k_is)
    (case e2 => k_is)
    (case k2 => k_is)
    (case a3 => k_is)
    (case l3 => k_is)
    (case e3 => k_is)
    (case k3 => k_is)
    (case a4 => k_is)
    (case l4 => k_is)
    (case e4 => k_is)
    (case k4 => k_is)
    (case a5 => k_is)
    (case l5 => k_is)
    (case e5 => k_is)
    (case k5 => k_is)
    (case a6 => k_is)
    (case l6 => k_is)
    (case e6 => k_is)
    (case k6 => k_is)
    (case a7 => k_is)
    (case l7 => k_is)
    (case e7 => k_is)
    (case k7 => k_is)
    (case a8 => k_is)
    (case l8 => k_is)
    (case e8 => k_is)
    (case k8 => k_is)
    (case a9 => k_is)
    (case l9 => k_is)
    (case e9 => k_is)
    (case k9 => k_is)
    (case a10 => k_is)
    (case l10 => k_is)
    (case e10 => k_is)
    (case k10 => k_is)
    (case a11 => k_is)
    (case l11 => k_is)
    (case e11 => k_is)
    (case k11 => k_is)
    (case a12 => k_is)
    (case l12 => k_is)
    (case e12 => k_is)
    (case k12 => k_is)
    (case a13 => k_is)
    (case l13 => k_is)
    (case e13 => k_is)
    (case k13 => k_is)
    (case a14 => k_is)
    (case l14 => k_is)
    (case e14 => k_is)
    (case k14 => k_is)
    (case a15 => k_is)
    (case l15 => k_is)
    (case e15 => k_is)
    (case k15 => k_is)
    (case a16 => k_is)
    (case l16 => k_is)
    (case e16 => k_is)
    (case k16 => k_is)
    (case a17 => k_is)
    (case l17 => k_is)
    (case e17 => k_is)
    (case k17 => k_is)
    (case a18 => k_is)
    (case l18 => k_is)
    (case e18 => k_is)
    (case k18 => k_is)
    (case a19 => k_is)
    (case l19 => k_is)
    (case e19 => k_is)
    (case k19 => k_is)
    (case a20 => k_is)
    (case l20 => k_is)
    (case e20 => k_is)
    (case k20 => k_is)
    (case a21 => k_is)
    (case l21 => k_is)
    (case e21 => k_is)
    (case k21 => k_is)
    (case a22 => k_is)
    (case l22 => k_is)
    (case e22 => k_is)
    (case k22 => k_is)
    (case a23 => k_is)
    (case l23 => k_is)
    (case e23 => k_is)
    (case k23 => k_is)
    (case a24 => k_is)
    (case l24 => k_is)
    (case e24 => k_is)
    (case k24 => k_is)
    (case a25 => k_is)
    (case l25 => k_is)
    (case e25 => k_is)
    (case k25 => k_is)
    (case a26 => k_is)
    (case l26 => k_is)
    (case e26 => k_is)
    (case k26 => k_is)
    (case a27 => k_is)
    (case l27 => k_is)
    (case e27 => k_is)
    (case k27 => k_is)
    (case a28 => k_is)
    (case l28 => k_is)
    (case e28 => k_is)
    (case k28 => k_is)
    (case a29 => k_is)
    (case l29 => k_is)
    (case e29 => k_is)
    (case k29 => k_is)
    (case a30 => k_is)
    (case l30 => k_is)
    (case e30 => k_is)
    (case k30 => k_is)
    (case a31 => k_is)
    (case l31 => k_is)
    (case e31 => k_is)
    (case k31 => k_is)
    (case a32 => k_is)
    (case l32 => k_is)
    (case e32 => k_is)
    (case k32 => k_is)
    (case a33 => k_is)
    (case l33 => k_is)
    (case e33 => k_is)
    (case k33 => k_is)
    (case a34 => k_is)
    (case l34 => k_is)
    (case e34 => k_is)
    (case k34 => k_is)
    (case a35 => k_is)
    (case i35 => k_is)
    (case l35 => k_is)
    (case e35 => k_is)
    (case k35 => k_is)
    (case t35 => k_is)
    (case pg_Example => k_is)
    (case hd_Example => k_is)
    (case po_Example => k_is)
    (case sa_Example => k_is)
    (case mk_Example => k_is)
    (case kc_Example => k_is)
    (case ha_Example => k_is)
    (case hn_Example => k_is)
    (case ht_Example => k_is)
    (case hm_Example => k_is)
    (case nf_Example_source => k_is)
    (case nf_Example_want => k_is)
    (case nf_Example_error => k_is)
    (case nf_Example_line => k_is)
    (case nf_Example_indent => k_is)
    (case nf_Example_options => k_is)
    (case nf_Example_bare => k_is)
    (case y_AHEAD => k_is)
    (case y_BLANKS => k_is)
    (case y_FURTHER => k_is)
    (case y_HEADERS => k_is)
    (case x_HEADERS => k_is)
    (case y_MARK => k_is)
    (case y_PROMPT => k_is)
    (case y_TAB => k_is)
    (case z_all => k_is)
    (case z_bool => k_is)
    (case z_dict => k_is)
    (case z_int => k_is)
    (case z_isinstance => k_is)
    (case z_len => k_is)
    (case z_list => k_is)
    (case z_max => k_is)
    (case z_min => k_is)
    (case z_range => k_is)
    (case z_tuple => k_is)
    (case z_zip => k_is)

