import PyProof.Rows.All
import Wide.All
import OpenK.AllK
import Wide.FinOn
import HandS.FStr
import HandS.ForMost
import HandS.Flow
import HandS.Defaults
import HandS.Style
import HandS.IsInst
import HandS.StrMore
import HandS.ReplaceList
import HandS.Deep
import HandS.Conv
import HandS.More
import PyProof.ToksMono
import HandS.ExpandTabs
import HandS.Codes
import HandS.SortKw
import KE.KMinKey
import KE.KUnpackStar
import HandS.List
import HandS.MakeKwOnly
import HandS.TryOnly
import HandS.ListItems
import HandS.Zip
import KE.SortData
import KE.KIsAll
import KE.KExcIs
import HandS.ExcInit
import HandS.ExcField
import HandS.ExcIs
import HandS.Lambda
import HandS.CallLocal
import HandS.EndOwn
import KE.KNestM
import PySem.Challenge.RW_promptyard_k74_options_refused
set_option Elab.async false
set_option linter.all false
set_option maxRecDepth 100000
namespace Pq
open PySem L2 TL PyProof.Rows
def top (i : Nat) : Stmt := PySem.Challenge.pw_promptyard_k74_options_refused.main.body.getD i (.Pass ⟨0, 0, 0, 0⟩)
-- def held at top 1
abbrev s_held : Stmt := top 1
theorem sc_held : FnScope ["thing", "key", "part"] ["thing"] (defScope s_held) := ⟨rfl, rfl, rfl, by decide +kernel, rfl, by decide +kernel, by decide +kernel⟩
-- cells ['thing']
-- def kept_lines at top 6
abbrev s_kept_lines : Stmt := top 6
theorem sc_kept_lines : FnScope ["text", "lines", "rest", "kept", "line"] ["text"] (defScope s_kept_lines) := ⟨rfl, rfl, rfl, by decide +kernel, rfl, by decide +kernel, by decide +kernel⟩
-- cells []
-- def lines_of at top 7
abbrev s_lines_of : Stmt := top 7
theorem sc_lines_of : FnScope ["text", "line"] ["text"] (defScope s_lines_of) := ⟨rfl, rfl, rfl, by decide +kernel, rfl, by decide +kernel, by decide +kernel⟩
-- cells []
-- def fed at top 8
abbrev s_fed : Stmt := top 8
theorem sc_fed : FnScope ["text"] ["text"] (defScope s_fed) := ⟨rfl, rfl, rfl, by decide +kernel, rfl, by decide +kernel, by decide +kernel⟩
-- cells []
-- def indent_of at top 9
abbrev s_indent_of : Stmt := top 9
theorem sc_indent_of : FnScope ["line"] ["line"] (defScope s_indent_of) := ⟨rfl, rfl, rfl, by decide +kernel, rfl, by decide +kernel, by decide +kernel⟩
-- cells []
-- def is_blank at top 12
abbrev s_is_blank : Stmt := top 12
theorem sc_is_blank : FnScope ["line"] ["line"] (defScope s_is_blank) := ⟨rfl, rfl, rfl, by decide +kernel, rfl, by decide +kernel, by decide +kernel⟩
-- cells []
-- def words_of at top 13
abbrev s_words_of : Stmt := top 13
theorem sc_words_of : FnScope ["text", "spaced", "word"] ["text"] (defScope s_words_of) := ⟨rfl, rfl, rfl, by decide +kernel, rfl, by decide +kernel, by decide +kernel⟩
-- cells []
-- def begins at top 18
abbrev s_begins : Stmt := top 18
theorem sc_begins : FnScope ["line", "prompt"] ["line", "prompt"] (defScope s_begins) := ⟨rfl, rfl, rfl, by decide +kernel, rfl, by decide +kernel, by decide +kernel⟩
-- cells []
-- def cuts_of at top 19
abbrev s_cuts_of : Stmt := top 19
theorem sc_cuts_of : FnScope ["lines", "cuts", "at", "middle", "end"] ["lines"] (defScope s_cuts_of) := ⟨rfl, rfl, rfl, by decide +kernel, rfl, by decide +kernel, by decide +kernel⟩
-- cells []
-- def behind_source at top 20
abbrev s_behind_source : Stmt := top 20
theorem sc_behind_source : FnScope ["lines", "at"] ["lines", "at"] (defScope s_behind_source) := ⟨rfl, rfl, rfl, by decide +kernel, rfl, by decide +kernel, by decide +kernel⟩
-- cells []
-- def behind_expected at top 21
abbrev s_behind_expected : Stmt := top 21
theorem sc_behind_expected : FnScope ["lines", "at"] ["lines", "at"] (defScope s_behind_expected) := ⟨rfl, rfl, rfl, by decide +kernel, rfl, by decide +kernel, by decide +kernel⟩
-- cells []
-- def refuse_wrong_lines at top 22
abbrev s_refuse_wrong_lines : Stmt := top 22
theorem sc_refuse_wrong_lines : FnScope ["lines", "cut", "start", "middle", "end", "indent", "behind_prompt", "at"] ["lines", "cut"] (defScope s_refuse_wrong_lines) := ⟨rfl, rfl, rfl, by decide +kernel, rfl, by decide +kernel, by decide +kernel⟩
-- cells []
-- def refuse_wrong_indents at top 23
abbrev s_refuse_wrong_indents : Stmt := top 23
theorem sc_refuse_wrong_indents : FnScope ["lines", "start", "end", "ahead", "at"] ["lines", "start", "end", "ahead"] (defScope s_refuse_wrong_indents) := ⟨rfl, rfl, rfl, by decide +kernel, rfl, by decide +kernel, by decide +kernel⟩
-- cells []
-- def is_flag at top 26
abbrev s_is_flag : Stmt := top 26
theorem sc_is_flag : FnScope ["thing"] ["thing"] (defScope s_is_flag) := ⟨rfl, rfl, rfl, by decide +kernel, rfl, by decide +kernel, by decide +kernel⟩
-- cells []
-- def require_flags at top 27
abbrev s_require_flags : Stmt := top 27
theorem sc_require_flags : FnScope ["flags", "thing"] ["flags"] (defScope s_require_flags) := ⟨rfl, rfl, rfl, by decide +kernel, rfl, by decide +kernel, by decide +kernel⟩
-- cells []
-- def directive_of at top 30
abbrev s_directive_of : Stmt := top 30
theorem sc_directive_of : FnScope ["line", "at"] ["line"] (defScope s_directive_of) := ⟨rfl, rfl, rfl, by decide +kernel, rfl, by decide +kernel, by decide +kernel⟩
-- cells []
-- def directive_words at top 31
abbrev s_directive_words : Stmt := top 31
theorem sc_directive_words : FnScope ["line"] ["line"] (defScope s_directive_words) := ⟨rfl, rfl, rfl, by decide +kernel, rfl, by decide +kernel, by decide +kernel⟩
-- cells []
-- def is_option_word at top 32
abbrev s_is_option_word : Stmt := top 32
theorem sc_is_option_word : FnScope ["word"] ["word"] (defScope s_is_option_word) := ⟨rfl, rfl, rfl, by decide +kernel, rfl, by decide +kernel, by decide +kernel⟩
-- cells []
-- def options_of at top 33
abbrev s_options_of : Stmt := top 33
theorem sc_options_of : FnScope ["source", "number", "options", "line", "word"] ["source", "number"] (defScope s_options_of) := ⟨rfl, rfl, rfl, by decide +kernel, rfl, by decide +kernel, by decide +kernel⟩
-- cells []
-- def bare_of at top 34
abbrev s_bare_of : Stmt := top 34
theorem sc_bare_of : FnScope ["source", "line"] ["source"] (defScope s_bare_of) := ⟨rfl, rfl, rfl, by decide +kernel, rfl, by decide +kernel, by decide +kernel⟩
-- cells []
-- def bare_line at top 35
abbrev s_bare_line : Stmt := top 35
theorem sc_bare_line : FnScope ["line"] ["line"] (defScope s_bare_line) := ⟨rfl, rfl, rfl, by decide +kernel, rfl, by decide +kernel, by decide +kernel⟩
-- cells []
-- def is_remark at top 36
abbrev s_is_remark : Stmt := top 36
theorem sc_is_remark : FnScope ["source", "line"] ["source"] (defScope s_is_remark) := ⟨rfl, rfl, rfl, by decide +kernel, rfl, by decide +kernel, by decide +kernel⟩
-- cells []
-- def widened at top 42
abbrev s_widened : Stmt := top 42
theorem sc_widened : FnScope ["text"] ["text"] (defScope s_widened) := ⟨rfl, rfl, rfl, by decide +kernel, rfl, by decide +kernel, by decide +kernel⟩
-- cells []
-- def levelled at top 43
abbrev s_levelled : Stmt := top 43
theorem sc_levelled : FnScope ["text", "lines", "least", "line"] ["text"] (defScope s_levelled) := ⟨rfl, rfl, rfl, by decide +kernel, rfl, by decide +kernel, by decide +kernel⟩
-- cells ['least']
-- def parsed at top 44
abbrev s_parsed : Stmt := top 44
theorem sc_parsed : FnScope ["text", "level", "kept", "lines", "pieces", "behind", "cut"] ["text"] (defScope s_parsed) := ⟨rfl, rfl, rfl, by decide +kernel, rfl, by decide +kernel, by decide +kernel⟩
-- cells []
-- def piece_at at top 45
abbrev s_piece_at : Stmt := top 45
theorem sc_piece_at : FnScope ["lines", "cut", "start", "middle", "end", "indent", "source", "want", "options", "line"] ["lines", "cut"] (defScope s_piece_at) := ⟨rfl, rfl, rfl, by decide +kernel, rfl, by decide +kernel, by decide +kernel⟩
-- cells ['indent']
-- def examples_of at top 46
abbrev s_examples_of : Stmt := top 46
theorem sc_examples_of : FnScope ["text", "piece"] ["text"] (defScope s_examples_of) := ⟨rfl, rfl, rfl, by decide +kernel, rfl, by decide +kernel, by decide +kernel⟩
-- cells []
-- def error_of at top 47
abbrev s_error_of : Stmt := top 47
theorem sc_error_of : FnScope ["want", "lines", "at"] ["want"] (defScope s_error_of) := ⟨rfl, rfl, rfl, by decide +kernel, rfl, by decide +kernel, by decide +kernel⟩
-- cells []
-- def is_word_sign at top 48
abbrev s_is_word_sign : Stmt := top 48
theorem sc_is_word_sign : FnScope ["sign"] ["sign"] (defScope s_is_word_sign) := ⟨rfl, rfl, rfl, by decide +kernel, rfl, by decide +kernel, by decide +kernel⟩
-- cells []
-- def script_of at top 51
abbrev s_script_of : Stmt := top 51
theorem sc_script_of : FnScope ["text", "parts", "piece", "part"] ["text"] (defScope s_script_of) := ⟨rfl, rfl, rfl, by decide +kernel, rfl, by decide +kernel, by decide +kernel⟩
-- cells []
-- def parts_of at top 52
abbrev s_parts_of : Stmt := top 52
theorem sc_parts_of : FnScope ["piece", "source", "line"] ["piece"] (defScope s_parts_of) := ⟨rfl, rfl, rfl, by decide +kernel, rfl, by decide +kernel, by decide +kernel⟩
-- cells []
-- def remark_of at top 53
abbrev s_remark_of : Stmt := top 53
theorem sc_remark_of : FnScope ["line"] ["line"] (defScope s_remark_of) := ⟨rfl, rfl, rfl, by decide +kernel, rfl, by decide +kernel, by decide +kernel⟩
-- cells []
-- def _law_draws at top 55
abbrev s_law_draws : Stmt := top 55
theorem sc_law_draws : FnScope ["script", "item"] ["script"] (defScope s_law_draws) := ⟨rfl, rfl, rfl, by decide +kernel, rfl, by decide +kernel, by decide +kernel⟩
-- cells []
-- def _law_mixed at top 56
abbrev s_law_mixed : Stmt := top 56
theorem sc_law_mixed : FnScope ["seed", "k", "first"] ["seed", "k"] (defScope s_law_mixed) := ⟨rfl, rfl, rfl, by decide +kernel, rfl, by decide +kernel, by decide +kernel⟩
-- cells []
-- def _law_take at top 57
abbrev s_law_take : Stmt := top 57
theorem sc_law_take : FnScope ["draws", "size", "drawn", "seed", "reach"] ["draws", "size"] (defScope s_law_take) := ⟨rfl, rfl, rfl, by decide +kernel, rfl, by decide +kernel, by decide +kernel⟩
-- cells []
-- def _law_same at top 58
abbrev s_law_same : Stmt := top 58
theorem sc_law_same : FnScope ["found", "due", "one", "two"] ["found", "due"] (defScope s_law_same) := ⟨rfl, rfl, rfl, by decide +kernel, rfl, by decide +kernel, by decide +kernel⟩
-- cells []
-- def _law_pick at top 59
abbrev s_law_pick : Stmt := top 59
theorem sc_law_pick : FnScope ["draws", "things"] ["draws", "things"] (defScope s_law_pick) := ⟨rfl, rfl, rfl, by decide +kernel, rfl, by decide +kernel, by decide +kernel⟩
-- cells []
-- def _law_flags at top 60
abbrev s_law_flags : Stmt := top 60
theorem sc_law_flags : FnScope ["found"] [] (defScope s_law_flags) := ⟨rfl, rfl, rfl, by decide +kernel, rfl, by decide +kernel, by decide +kernel⟩
-- cells []
-- def _law_wrong at top 61
abbrev s_law_wrong : Stmt := top 61
theorem sc_law_wrong : FnScope ["ask", "found"] ["ask"] (defScope s_law_wrong) := ⟨rfl, rfl, rfl, by decide +kernel, rfl, by decide +kernel, by decide +kernel⟩
-- cells []
-- def _law_directive at top 62
abbrev s_law_directive : Stmt := top 62
theorem sc_law_directive : FnScope ["draws", "words", "ways", "ahead", "text", "k", "word", "gap"] ["draws", "words"] (defScope s_law_directive) := ⟨rfl, rfl, rfl, by decide +kernel, rfl, by decide +kernel, by decide +kernel⟩
-- cells []
-- def _law_words at top 63
abbrev s_law_words : Stmt := top 63
theorem sc_law_words : FnScope ["draws", "most", "k"] ["draws", "most"] (defScope s_law_words) := ⟨rfl, rfl, rfl, by decide +kernel, rfl, by decide +kernel, by decide +kernel⟩
-- cells ['draws']
-- def _law_some_words at top 64
abbrev s_law_some_words : Stmt := top 64
theorem sc_law_some_words : FnScope ["draws", "odd", "found", "at", "way"] ["draws"] (defScope s_law_some_words) := ⟨rfl, rfl, rfl, by decide +kernel, rfl, by decide +kernel, by decide +kernel⟩
-- cells []
-- def _law_fault at top 65
abbrev s_law_fault : Stmt := top 65
theorem sc_law_fault : FnScope ["words", "is_comment", "source", "word"] ["words", "is_comment", "source"] (defScope s_law_fault) := ⟨rfl, rfl, rfl, by decide +kernel, rfl, by decide +kernel, by decide +kernel⟩
-- cells []
-- def law at top 66
abbrev s_law : Stmt := top 66
theorem sc_law : FnScope ["script", "draws", "turn", "lines", "due", "k", "indent", "is_comment", "words", "some", "at", "mine", "ahead", "text", "fault", "line", "ask", "found"] ["script"] (defScope s_law) := ⟨rfl, rfl, rfl, by decide +kernel, rfl, by decide +kernel, by decide +kernel⟩
-- cells ['ask', 'lines']
-- def BadText_init at top 4
abbrev s_BadText_init : Stmt := inClass (top 4) 0
theorem sc_BadText_init : FnScope ["self", "line", "reason", "found"] ["self", "line", "reason", "found"] (defScope s_BadText_init) := ⟨rfl, rfl, rfl, by decide +kernel, rfl, by decide +kernel, by decide +kernel⟩
-- cells []
-- def Example_init at top 40
abbrev s_Example_init : Stmt := inClass (top 40) 0
theorem sc_Example_init : FnScope ["self", "source", "want", "error", "line", "indent", "options", "told"] ["self", "source", "want", "error", "line", "indent", "options"] (defScope s_Example_init) := ⟨rfl, rfl, rfl, by decide +kernel, rfl, by decide +kernel, by decide +kernel⟩
-- cells []
-- def Comment_init at top 41
abbrev s_Comment_init : Stmt := inClass (top 41) 0
theorem sc_Comment_init : FnScope ["self", "source", "want", "line", "indent"] ["self", "source", "want", "line", "indent"] (defScope s_Comment_init) := ⟨rfl, rfl, rfl, by decide +kernel, rfl, by decide +kernel, by decide +kernel⟩
-- cells []
def v_FLAGS : List Str := ["DONT_ACCEPT_TRUE_FOR_1", "DONT_ACCEPT_BLANKLINE", "NORMALIZE_WHITESPACE", "ELLIPSIS", "SKIP", "IGNORE_EXCEPTION_DETAIL", "REPORT_ONLY_FIRST_FAILURE", "FAIL_FAST"]
def v_HEADERS : List Str := ["Traceback (most recent call last):", "Traceback (innermost last):"]

/-! ### small words -/
theorem same_new {H : Hp} {p : Addr} {o : HO} (h : H p = none) : Same H (upd H p o) := fun b x e => by
  rw [upd_ne (ne_of_none e h)]
  exact e
theorem line_of {n : Nat} (h : n ≤ 1000000) : n ≤ sizeLine := Nat.le_trans h (by decide)
/-- a def of the text, as its callers see it -/
structure Own (P : Program) (w : World) (K : PySem.W.Frag) (mg : Str → Option Value) (base : Heap) (x : Str) (k : Nat) (ps : List Str) (dvs : List V) (sp : Sp) : Prop where
  ex : ∃ f fd ds, FnOk P w K mg base CX0 k f fd ps sp ∧ mg x = some (.ref f) ∧ PySem.W.keepIn K (.ref f) = true ∧ Binds K fd ps ds ∧ Vals dvs ds
section
variable {X : Cx} {x : Str} {k : Nat} {ps : List Str} {dvs : List V} {sp : Sp} {e : Expr} {es : List Expr} {t : TA} {p pos : Pos}
theorem Own.mk' {P : Program} {w : World} {K : PySem.W.Frag} {mg : Str → Option Value} {base : Heap} {f : Addr} {fd : FuncData} {ds : List Value} (a : FnOk P w K mg base CX0 k f fd ps sp) (b : mg x = some (.ref f)) (c : PySem.W.keepIn K (.ref f) = true) (d : Binds K fd ps ds) (v : Vals dvs ds) : Own P w K mg base x k ps dvs sp := ⟨_, _, _, a, b, c, d, v⟩
theorem pe_own (O : Own X.prog X.w X.K X.mg X.base x k ps dvs sp) (hr : Room k X.A) (hg : Gl X x) (ha : PA X (e :: es) t) (hdb : (x == ("__debug__" : Str)) = false := by decide) (he : starEach (e :: es) X.env = (false, eval e X.env) :: starEach es X.env := by rfl) (hpl : (backTo pos (starEach es X.env)).any (·.1) = false := by rfl) :
    PE X (.Call (.Name x p) (e :: es) [] pos) (tCall sp dvs E0 t) := by
  obtain ⟨f, fd, ds, F, hm, hk, hb, hd⟩ := O.ex
  exact pe_call F hr hg hm hk hb hd pass0 ha hdb he hpl
theorem pe_own0 (O : Own X.prog X.w X.K X.mg X.base x k ps dvs sp) (hr : Room k X.A) (hg : Gl X x) (hdb : (x == ("__debug__" : Str)) = false := by decide) :
    PE X (.Call (.Name x p) [] [] pos) (tCall sp dvs E0 tNil) := by
  obtain ⟨f, fd, ds, F, hm, hk, hb, hd⟩ := O.ex
  exact pe_call0 F hr hg hm hk hb hd pass0 hdb
/-- a statement, a word about what stands behind it, the rest -/
def tCut (t u : TS) : TS := fun D σ H => ∃ Mid : L2.St → Hp → Prop, t { D with nx := Mid } σ H ∧ ∀ σ' H', Mid σ' H' → u D σ' H'
theorem pss_cut {st : Stmt} {rest : List Stmt} {t u : TS} (h1 : PS X st t) (h2 : PSs X rest u) : PSs X (st :: rest) (tCut t u) := by
  refine ⟨fun pins s σ H D I h => ?_⟩
  obtain ⟨Mid, hm, hu⟩ := h
  refine wpAny_execs_cons (thn (h1.run pins s σ H { D with nx := Mid } I hm) fun f s1 q => ?_)
  cases f with
  | next =>
    obtain ⟨σ', H', I', q⟩ := q
    exact h2.run pins s1 σ' H' D I' (hu σ' H' q)
  | ret v => exact q
  | brk => exact q
  | cont => exact q
end
theorem int_at {ns : List Int} {i : Nat} {x : V} (h : (ns.map V.int)[i]? = some x) : ∃ z, x = V.int z := by
  rw [List.getElem?_map] at h
  cases e : ns[i]? with
  | none =>
    rw [e] at h
    cases h
  | some z =>
    rw [e] at h
    exact ⟨z, (Option.some.inj h).symm⟩

/-! ### steps that want one token out: the judgements of the layer from states with a token -/
section
variable {α : Type} {M : Model} {A : Around} {s : Shared}
theorem thnK {t : Sem α} {Q Q' : α → Shared → Prop} {E : Value → Shared → Prop} (hk : 1 ≤ s.toks) (h : wpAny M A t Q E s) (hQ : ∀ a s', 1 ≤ s'.toks → Q a s' → Q' a s') : wpAny M A t Q' E s :=
  wpAny_mono (PySem.wpAny_toks_of hk h) (fun a s' x => hQ a s' x.1 x.2) fun _ _ x => x.2
end
structure ET (X : Cx) (e : Expr) (t : TE) : Prop where
  run : ∀ (pins : List (Addr × Obj)) (s : Shared) (σ : L2.St) (H : Hp) (Q : VK), 1 ≤ s.toks → Inv X pins σ H s → t σ H Q → wpAny (model X.prog X.w) X.A (eval e X.env) (EP X pins σ Q) X.xe s
structure TT' (X : Cx) (e : Expr) (t : TT) : Prop where
  run : ∀ (pins : List (Addr × Obj)) (s : Shared) (σ : L2.St) (H : Hp) (Q : Bool → Hp → Prop), 1 ≤ s.toks → Inv X pins σ H s → t σ H Q → wpAny (model X.prog X.w) X.A (isTrue e X.env (eval e X.env)) (TP X pins σ Q) X.xe s
structure WT (X : Cx) (e : Expr) (t : TT) : Prop where
  run : ∀ (whole : Sem Value) (pins : List (Addr × Obj)) (s : Shared) (σ : L2.St) (H : Hp) (Q : Bool → Hp → Prop), 1 ≤ s.toks → Inv X pins σ H s → t σ H Q → wpAny (model X.prog X.w) X.A (isTrue e X.env whole) (TP X pins σ Q) X.xe s
structure AT (X : Cx) (es : List Expr) (t : TA) : Prop where
  run : ∀ (pos : Pos) (pins : List (Addr × Obj)) (s : Shared) (σ : L2.St) (H : Hp) (Q : List V → Hp → Prop), 1 ≤ s.toks → Inv X pins σ H s → t σ H Q → wpAny (model X.prog X.w) X.A (spliced (backTo pos (starEach es X.env))) (AP X pins σ Q) X.xe s
structure ST (X : Cx) (st : Stmt) (t : TS) : Prop where
  run : ∀ (pins : List (Addr × Obj)) (s : Shared) (σ : L2.St) (H : Hp) (D : Ends), 1 ≤ s.toks → Inv X pins σ H s → t D σ H → wpAny (model X.prog X.w) X.A (exec st X.env) (SP X pins D) X.xe s
structure BT (X : Cx) (st : List Stmt) (t : TS) : Prop where
  run : ∀ (pins : List (Addr × Obj)) (s : Shared) (σ : L2.St) (H : Hp) (D : Ends), 1 ≤ s.toks → Inv X pins σ H s → t D σ H → wpAny (model X.prog X.w) X.A (execs st X.env) (SP X pins D) X.xe s
/-- the same, and behind it a token is out for sure -/
structure AK (X : Cx) (es : List Expr) (t : TA) : Prop where
  run : ∀ (pos : Pos) (pins : List (Addr × Obj)) (s : Shared) (σ : L2.St) (H : Hp) (Q : List V → Hp → Prop), Inv X pins σ H s → t σ H Q → wpAny (model X.prog X.w) X.A (spliced (backTo pos (starEach es X.env))) (fun us s' => 1 ≤ s'.toks ∧ AP X pins σ Q us s') X.xe s
structure EK (X : Cx) (e : Expr) (t : TE) : Prop where
  run : ∀ (pins : List (Addr × Obj)) (s : Shared) (σ : L2.St) (H : Hp) (Q : VK), Inv X pins σ H s → t σ H Q → wpAny (model X.prog X.w) X.A (eval e X.env) (fun u s' => 1 ≤ s'.toks ∧ EP X pins σ Q u s') X.xe s
structure SK (X : Cx) (st : Stmt) (t : TS) : Prop where
  run : ∀ (pins : List (Addr × Obj)) (s : Shared) (σ : L2.St) (H : Hp) (D : Ends), Inv X pins σ H s → t D σ H → wpAny (model X.prog X.w) X.A (exec st X.env) (fun f s' => 1 ≤ s'.toks ∧ SP X pins D f s') X.xe s
structure BK (X : Cx) (st : List Stmt) (t : TS) : Prop where
  run : ∀ (pins : List (Addr × Obj)) (s : Shared) (σ : L2.St) (H : Hp) (D : Ends), Inv X pins σ H s → t D σ H → wpAny (model X.prog X.w) X.A (execs st X.env) (fun f s' => 1 ≤ s'.toks ∧ SP X pins D f s') X.xe s
structure FnT (P : Program) (w : World) (K : PySem.W.Frag) (mg : Str → Option Value) (base : Heap) (CX : CXT) (k : Nat) (f : Addr) (fd : FuncData) (ps : List Str) (sp : Sp) : Prop where
  len : ∀ vs H Q E, sp vs H Q E → vs.length = ps.length
  run : ∀ (A : Around) (outer : List Env) (s : Shared) (H : Hp) (args : Args) (us : List Value) (vs : List V) (Q : VK) (E : XK), 1 ≤ s.toks → Room k A → Env0 P w K mg base A outer s H → BindsTo s fd args (ps.zip us) → Vals vs us → sp vs H Q E →
    codeAny (model P w) A (.call (.ref f) args) (CR CX outer P w H s Q E) s
structure FnK (P : Program) (w : World) (K : PySem.W.Frag) (mg : Str → Option Value) (base : Heap) (CX : CXT) (k : Nat) (f : Addr) (fd : FuncData) (ps : List Str) (sp : Sp) : Prop where
  len : ∀ vs H Q E, sp vs H Q E → vs.length = ps.length
  run : ∀ (A : Around) (outer : List Env) (s : Shared) (H : Hp) (args : Args) (us : List Value) (vs : List V) (Q : VK) (E : XK), Room k A → Env0 P w K mg base A outer s H → BindsTo s fd args (ps.zip us) → Vals vs us → sp vs H Q E →
    codeAny (model P w) A (.call (.ref f) args) (fun r s' => ((∃ e, r = .error e) ∨ 1 ≤ s'.toks) ∧ CR CX outer P w H s Q E r s') s
structure OwnT (P : Program) (w : World) (K : PySem.W.Frag) (mg : Str → Option Value) (base : Heap) (x : Str) (k : Nat) (ps : List Str) (dvs : List V) (sp : Sp) : Prop where
  ex : ∃ f fd ds, FnT P w K mg base CX0 k f fd ps sp ∧ mg x = some (.ref f) ∧ PySem.W.keepIn K (.ref f) = true ∧ Binds K fd ps ds ∧ Vals dvs ds
structure OwnK (P : Program) (w : World) (K : PySem.W.Frag) (mg : Str → Option Value) (base : Heap) (x : Str) (k : Nat) (ps : List Str) (dvs : List V) (sp : Sp) : Prop where
  ex : ∃ f fd ds, FnK P w K mg base CX0 k f fd ps sp ∧ mg x = some (.ref f) ∧ PySem.W.keepIn K (.ref f) = true ∧ Binds K fd ps ds ∧ Vals dvs ds
section
variable {X : Cx} {a b c e o : Expr} {es rest' : List Expr} {ta tb tc te to : TE} {uA uB uC : TT} {tx : TA} {pos : Pos} {st : Stmt} {rest bd bd' : List Stmt} {t u : TS}
theorem ET.of (h : PE X e te) : ET X e te := ⟨fun pins s σ H Q _ I q => h.run pins s σ H Q I q⟩
theorem TT'.of (h : PT X e uA) : TT' X e uA := ⟨fun pins s σ H Q _ I q => h.run pins s σ H Q I q⟩
theorem WT.of (h : PW X e uA) : WT X e uA := ⟨fun wh pins s σ H Q _ I q => h.run wh pins s σ H Q I q⟩
theorem WT.pt (h : WT X e uA) : TT' X e uA := ⟨h.run _⟩
theorem AT.of (h : PA X es tx) : AT X es tx := ⟨fun pos pins s σ H Q _ I q => h.run pos pins s σ H Q I q⟩
theorem ST.of (h : PS X st t) : ST X st t := ⟨fun pins s σ H D _ I q => h.run pins s σ H D I q⟩
theorem BT.of (h : PSs X bd t) : BT X bd t := ⟨fun pins s σ H D _ I q => h.run pins s σ H D I q⟩
/-- arguments -/
theorem at_cons (ha : ET X e te) (hr : AT X es tx) (hs : starEach (e :: es) X.env = (false, eval e X.env) :: starEach es X.env := by rfl) : AT X (e :: es) (tCons te tx) := by
  refine ⟨fun pos pins s σ H Q hk I h => ?_⟩
  rw [hs]
  show wpAny _ _ (spliced ((false, eval e X.env) :: backTo pos (starEach es X.env))) _ _ s
  refine Calls.spliced_cons (thnK hk (ha.run pins s σ H _ hk I h) fun v s1 k1 ⟨x, H1, I1, r1, q1⟩ => ?_)
  exact thn (hr.run pos pins s1 σ H1 _ k1 I1 q1) fun us s2 ⟨xs, H2, I2, r2, q2⟩ => ⟨x :: xs, H2, I2, .cons r1 r2, q2⟩
theorem at_nil : AT X [] tNil := .of pa_nil
theorem binK (ha : ET X a ta) (hb : ET X b tb) {pins : List (Addr × Obj)} {s : Shared} {σ : L2.St} {H : Hp} {R : V → V → Hp → Prop} (hk : 1 ≤ s.toks) (I : Inv X pins σ H s)
    (h : ta σ H fun x H1 => tb σ H1 fun y H2 => R x y H2) {Q : Value → Shared → Prop} {f : Value → Value → Sem Value}
    (hf : ∀ v u s2 x y H2, Inv X pins σ H2 s2 → RelV x v → RelV y u → R x y H2 → wpAny (model X.prog X.w) X.A (f v u) Q X.xe s2) :
    wpAny (model X.prog X.w) X.A (eval a X.env) (fun v s₁ => wpAny (model X.prog X.w) X.A (eval b X.env) (fun u s₂ => wpAny (model X.prog X.w) X.A (f v u) Q X.xe s₂) X.xe s₁) X.xe s := by
  refine thnK hk (ha.run pins s σ H _ hk I h) fun v s1 k1 ⟨x, H1, I1, r1, q1⟩ => ?_
  refine thn (hb.run pins s1 σ H1 _ k1 I1 q1) fun u s2 ⟨y, H2, I2, r2, q2⟩ => ?_
  exact hf v u s2 x y H2 I2 r1 r2 q2
theorem et_op {op : Operator} {r : R2} (ho : OpR X (binaryOp op) r) (ha : ET X a ta) (hb : ET X b tb) : ET X (.BinOp a op b pos) (tOp r ta tb) :=
  ⟨fun pins s σ H Q hk I h => wpAny_BinOp (binK ha hb hk I h fun v u s2 x y H2 I2 rx ry q => ho pins s2 σ H2 x y v u Q I2 rx ry q)⟩
theorem et_ix {r : R2} (hr : IxR X r) (ha : ET X a ta) (hb : ET X b tb) (hs : PlainIx b) : ET X (.Subscript a b pos) (tOp r ta tb) :=
  ⟨fun pins s σ H Q hk I h => Subscript_ (binK ha hb hk I h fun v u s2 x y H2 I2 rx ry q => hr a b pins s2 σ H2 x y v u Q I2 rx ry q (hs _ _))⟩
theorem et_cmpR {op : CmpOp} {r : R2} (ho : OpR X (compareOp op) r) (ha : ET X a ta) (hb : ET X b tb) (hm : behindInMarks op b = false) : ET X (.Compare a [op] [b] pos) (tOp r ta tb) :=
  ⟨fun pins s σ H Q hk I h => wpAny_Compare1 (binK ha hb hk I h fun v u s2 x y H2 I2 rx ry q => ho pins s2 σ H2 x y v u Q I2 rx ry q) hm⟩
theorem tt_cmpR {op : CmpOp} {r : R2} (ho : OpR X (compareOp op) r) (ha : ET X a ta) (hb : ET X b tb) (hm : behindInMarks op b = false) : TT' X (.Compare a [op] [b] pos) (tTest (tOp r ta tb)) := by
  refine ⟨fun pins s σ H Q hk I h => ?_⟩
  refine wpAny_isTrue_Compare1 (thnK hk (ha.run pins s σ H _ hk I h) fun v s1 k1 ⟨x, H1, I1, r1, q1⟩ => thn (hb.run pins s1 σ H1 _ k1 I1 q1) fun u s2 ⟨y, H2, I2, r2, q2⟩ =>
    thn (ho pins s2 σ H2 x y v u _ I2 r1 r2 q2) fun c s3 ⟨z, H3, I3, r3, k, e, q3⟩ => ?_) hm
  subst e
  cases r3
  exact wpAny_truthy_bool ⟨H3, I3, q3⟩
theorem tt_val (h : ET X e te) (he : ∀ whole, isTrue e X.env whole = (do let v ← whole; standAt e.pos; holding [v] (truthy v)) := by intro _; rfl) : TT' X e (tB te) := by
  refine ⟨fun pins s σ H Q hk I hw => ?_⟩
  refine isTrue_plain (thn (h.run pins s σ H _ hk I hw) fun v s1 ⟨x, H1, I1, r1, q1⟩ => ?_) (he _)
  obtain ⟨k, rfl, q⟩ := q1
  cases r1
  exact wpAny_truthy_bool ⟨H1, I1, q⟩
theorem tt_not (ha : TT' X a uA) : TT' X (.UnaryOp .Not a pos) (tNot uA) :=
  ⟨fun pins s σ H Q hk I h => isTrue_not (ha.run pins s σ H (fun c H1 => Q (!c) H1) hk I h)⟩
theorem wt_and1 (ha : TT' X a uA) : WT X (.BoolOp .And [a] pos) uA := by
  refine ⟨fun wh pins s σ H Q hk I h => ?_⟩
  refine isTrue_and (thn (ha.run pins s σ H Q hk I h) fun c s1 e => ?_)
  cases c with
  | true => exact isTrue_and_nil e
  | false => exact e
theorem wt_or1 (ha : TT' X a uA) : WT X (.BoolOp .Or [a] pos) uA := by
  refine ⟨fun wh pins s σ H Q hk I h => ?_⟩
  refine isTrue_or (thn (ha.run pins s σ H Q hk I h) fun c s1 e => ?_)
  cases c with
  | false => exact isTrue_or_nil e
  | true => exact e
theorem wt_and (ha : TT' X a uA) (hb : WT X (.BoolOp .And (b :: rest') pos) uB) : WT X (.BoolOp .And (a :: b :: rest') pos) (tAnd uA uB) := by
  refine ⟨fun wh pins s σ H Q hk I h => ?_⟩
  refine isTrue_and (thnK hk (ha.run pins s σ H _ hk I h) fun c s1 k1 ⟨H1, I1, q1⟩ => ?_)
  cases c with
  | true => exact hb.run wh pins s1 σ H1 Q k1 I1 q1
  | false => exact ⟨H1, I1, q1⟩
theorem wt_or (ha : TT' X a uA) (hb : WT X (.BoolOp .Or (b :: rest') pos) uB) : WT X (.BoolOp .Or (a :: b :: rest') pos) (tOr uA uB) := by
  refine ⟨fun wh pins s σ H Q hk I h => ?_⟩
  refine isTrue_or (thnK hk (ha.run pins s σ H _ hk I h) fun c s1 k1 ⟨H1, I1, q1⟩ => ?_)
  cases c with
  | true => exact ⟨H1, I1, q1⟩
  | false => exact hb.run wh pins s1 σ H1 Q k1 I1 q1
theorem et_one {op} (h : ET X a ta) : ET X (.BoolOp op [a] pos) ta := ⟨fun pins s σ H Q hk I hw => BoolOp_one (h.run pins s σ H Q hk I hw)⟩
theorem et_and (ha : ET X a ta) (hb : ET X (.BoolOp .And (b :: rest') pos) tb) : ET X (.BoolOp .And (a :: b :: rest') pos) (tAndV ta tb) := by
  refine ⟨fun pins s σ H Q hk I h => ?_⟩
  refine BoolOp_and (thnK hk (ha.run pins s σ H _ hk I h) fun v s1 k1 ⟨x, H1, I1, r1, q1⟩ => ?_)
  obtain ⟨c, rfl, q1⟩ := q1
  cases r1
  refine wpAny_truthy_bool ?_
  cases c with
  | true => exact hb.run pins s1 σ H1 Q k1 I1 q1
  | false => exact ⟨.bl false, H1, I1, rfl, q1⟩
theorem et_or (ha : ET X a ta) (hb : ET X (.BoolOp .Or (b :: rest') pos) tb) : ET X (.BoolOp .Or (a :: b :: rest') pos) (tOrV ta tb) := by
  refine ⟨fun pins s σ H Q hk I h => ?_⟩
  refine BoolOp_or (thnK hk (ha.run pins s σ H _ hk I h) fun v s1 k1 ⟨x, H1, I1, r1, q1⟩ => ?_)
  obtain ⟨c, rfl, q1⟩ := q1
  cases r1
  refine wpAny_truthy_bool ?_
  cases c with
  | false => exact hb.run pins s1 σ H1 Q k1 I1 q1
  | true => exact ⟨.bl true, H1, I1, rfl, q1⟩
theorem et_not (ha : ET X a ta) : ET X (.UnaryOp .Not a pos) (tNotV ta) := by
  refine ⟨fun pins s σ H Q hk I h => ?_⟩
  refine UnaryOp_ (thn (ha.run pins s σ H _ hk I h) fun v s1 ⟨x, H1, I1, r1, q1⟩ => ?_)
  obtain ⟨c, rfl, q1⟩ := q1
  cases r1
  exact not_of (wpAny_truthy_bool ⟨.bl (!c), H1, I1, rfl, q1⟩)
theorem et_ifExp (hc : TT' X c uC) (ha : ET X a ta) (hb : ET X b tb) : ET X (.IfExp c a b pos) (tIf uC ta tb) := by
  refine ⟨fun pins s σ H Q hk I h => ?_⟩
  refine wpAny_IfExp (thnK hk (hc.run pins s σ H _ hk I h) fun d s1 k1 ⟨H1, I1, q1⟩ => ?_)
  cases d with
  | true => exact ha.run pins s1 σ H1 Q k1 I1 q1
  | false => exact hb.run pins s1 σ H1 Q k1 I1 q1
theorem et_tup {x1} (h : AT X es tx) : ET X (.Tuple es x1 pos) (tTup tx) := by
  refine ⟨fun pins s σ H Q hk I hq => ?_⟩
  refine wpAny_Tuple_spliced (thn (h.run pos pins s σ H _ hk I hq) fun us s1 ⟨xs, H1, I1, r, z, q⟩ => ⟨by rw [← r.length]; exact z, ?_⟩)
  have hf : H1 s1.heap.objs.size = none := I1.hok.fresh (Nat.le_refl _)
  refine ⟨.ref s1.heap.objs.size, upd H1 s1.heap.objs.size (.tup xs), I1.laid (t' := s1.toks) (fun b u e => Heap.get?_push_of_some _ e) (Nat.le_refl _) ?_, rfl, q _ hf⟩
  exact ⟨z, us, r, ⟨_, Heap.get?_push_size _ rfl, rfl, _, rfl⟩⟩
theorem et_lst (h : AT X es tx) : ET X (.List es pos) (tLst tx) := by
  refine ⟨fun pins s σ H Q hk I hq => ?_⟩
  refine wpAny_List_spliced (thn (h.run pos pins s σ H _ hk I hq) fun us s1 ⟨xs, H1, I1, r, z, q⟩ => ⟨by rw [← r.length]; exact z, ?_⟩)
  have hf : H1 s1.heap.objs.size = none := I1.hok.fresh (Nat.le_refl _)
  refine ⟨.ref s1.heap.objs.size, upd H1 s1.heap.objs.size (.lst xs), I1.laid (t' := s1.toks) (fun b u e => Heap.get?_push_of_some _ e) (Nat.le_refl _) ?_, rfl, q _ hf⟩
  exact ⟨z, us, 0, r, Heap.get?_push_size _ rfl⟩
/-- a method of a built-in type -/
theorem et_bm {T id : String} {name : Str} {apos cpos : Pos} {r : V → List V → Hp → VK → Prop} (pa : PlainAttrs T) (slot : Slot T name id) (hty : typeOf (.builtin id) = pure (.type "method_descriptor")) (hm : MtR X id r) (ho : ET X o to) (ha : AT X (e :: es) tx)
    (hbase : attributeBase o name X.env (eval o X.env) = eval o X.env := by rfl)
    (hfew : ((backTo cpos (starEach (e :: es) X.env)).all (fun x => !x.1) && (backToKw cpos (keywordEach [] X.env)).all (fun x => x.1.isSome)
      && decide ((e :: es).length + ([] : List Keyword).length + (if ([] : List Keyword).isEmpty then 0 else 1) < 30)) = true := by rfl)
    (hline : (apos.endLine == cpos.line) = true := by rfl) (hs : starEach (e :: es) X.env = (false, eval e X.env) :: starEach es X.env := by rfl) (hplain : (backTo cpos (starEach es X.env)).any (·.1) = false := by rfl) :
    ET X (.Call (.Attribute o name apos) (e :: es) [] cpos) (tBM X.K T r to tx) := by
  refine ⟨fun pins s σ H Q hk I h => ?_⟩
  refine wpAny_Call_method_late hbase hfew hline rfl (thnK hk (ho.run pins s σ H _ hk I h) fun v s1 k1 ⟨x, H1, I1, r1, ty, q1⟩ => ?_)
  obtain ⟨h1, h2⟩ := tyV_is I1 r1 ty
  refine ⟨T, id, pa, slot, hty, h1, h2, ?_⟩
  have hA := ha.run cpos pins s1 σ H1 _ k1 I1 q1
  rw [hs] at hA ⊢
  refine Calls.callWith_builtin (by show (false || (backTo cpos (starEach es X.env)).any (·.1)) = false; rw [hplain] <;> rfl) (Calls.evalArgs_plain ?_)
  exact thn hA fun us s2 ⟨vs, H2, I2, r2, q2⟩ => hm pins s2 σ H2 x vs v us Q I2 r1 r2 q2
/-- statements -/
theorem st_expr (he : ET X e te) (hs : swapsWith e none pos.line X.env = pure false := by rfl) : ST X (.Expr e pos) (tDrop te) :=
  ⟨fun pins s σ H D hk I h => wpAny_Expr_any (thn (he.run pins s σ H _ hk I h) fun v s1 ⟨x, H1, I1, r1, q1⟩ => ⟨σ, H1, I1, q1⟩) I.quiet hs⟩
theorem st_ret (he : ET X e te) : ST X (.Return (some e) pos) (tRet te) :=
  ⟨fun pins s σ H D hk I h => wpAny_Return_some (thn (he.run pins s σ H _ hk I h) fun v s1 ⟨x, H1, I1, r1, q1⟩ => ⟨x, σ, H1, I1, r1, q1⟩)⟩
theorem st_if (hc : TT' X c uC) (ha : BT X bd t) (hb : BT X bd' u) : ST X (.If c bd bd' pos) (tIfS uC t u) := by
  refine ⟨fun pins s σ H D hk I h => ?_⟩
  refine wpAny_If (thnK hk (hc.run pins s σ H _ hk I h) fun d s1 k1 ⟨H1, I1, q1⟩ => ?_)
  cases d with
  | true => exact ha.run pins s1 σ H1 D k1 I1 q1
  | false => exact hb.run pins s1 σ H1 D k1 I1 q1
theorem st_asg {tg : Expr} {g : TG} (he : ET X e te) (hg : PG X tg g) (hs : swapsWithSole [tg] e pos.line X.env = pure false := by rfl) (hw : swappedStores [tg] e X.env = pure none := by rfl)
    (h1 : (assignEach [tg] X.env).map (·.2) = [assign tg X.env] := by rfl) : ST X (.Assign [tg] e pos) (tAsg te g) := by
  refine ⟨fun pins s σ H D hk I h => ?_⟩
  refine wpAny_Assign_stores (thn (he.run pins s σ H _ hk I h) fun v s1 ⟨x, H1, I1, r1, q1⟩ => ?_) hs hw
  rw [h1]
  exact thn (hg.run pins s1 σ H1 x v _ I1 r1 q1) fun _ s2 q => q
theorem st_set {i : Nat} {x : Str} {pos' : Pos} (hN : X.N.Nodup) (hi : X.N[i]? = some x) (hx : Loc X.env.scope x) (he : ET X e te) (hs : swapsWith e (some (.Name x pos')) pos.line X.env = pure false := by rfl) (hf : X.fn x = true ∨ X.env.scope.names.lookup x = some .local := by first | exact .inl rfl | exact .inr rfl | assumption) :
    ST X (.Assign [.Name x pos'] e pos) (tAsg te (gName i)) := by
  refine ⟨fun pins s σ H D hk I h => ?_⟩
  refine wpAny_Assign_Name (thn (he.run pins s σ H _ hk I h) fun v s1 ⟨y, H1, I1, r1, q1⟩ => ?_) hs
  exact store_ok I1 hN hi hx r1 (fun s2 I2 => ⟨_, H1, I2, q1⟩) hf
theorem bt_nil : BT X [] tNext := .of pss_nil
theorem bt_one (h1 : ST X st t) : BT X [st] t := by
  refine ⟨fun pins s σ H D hk I h => ?_⟩
  refine wpAny_execs_cons (thn (h1.run pins s σ H D hk I h) fun f s1 q => ?_)
  cases f with
  | next => exact wpAny_execs_nil q
  | ret v => exact q
  | brk => exact q
  | cont => exact q
theorem bt_cons (h1 : ST X st t) (h2 : BT X rest u) : BT X (st :: rest) (tSeq t u) := by
  refine ⟨fun pins s σ H D hk I h => ?_⟩
  refine wpAny_execs_cons (thnK hk (h1.run pins s σ H { D with nx := u D } hk I h) fun f s1 k1 q => ?_)
  cases f with
  | next =>
    obtain ⟨σ', H', I', q⟩ := q
    exact h2.run pins s1 σ' H' D k1 I' q
  | ret v => exact q
  | brk => exact q
  | cont => exact q
theorem bt_cut (h1 : ST X st t) (h2 : BT X rest u) : BT X (st :: rest) (tCut t u) := by
  refine ⟨fun pins s σ H D hk I h => ?_⟩
  obtain ⟨Mid, hm, hu⟩ := h
  refine wpAny_execs_cons (thnK hk (h1.run pins s σ H { D with nx := Mid } hk I hm) fun f s1 k1 q => ?_)
  cases f with
  | next =>
    obtain ⟨σ', H', I', q⟩ := q
    exact h2.run pins s1 σ' H' D k1 I' (hu σ' H' q)
  | ret v => exact q
  | brk => exact q
  | cont => exact q
/-- behind a statement that gives a token out -/
theorem pssk_cons (h1 : SK X st t) (h2 : BT X rest u) : PSs X (st :: rest) (tSeq t u) := by
  refine ⟨fun pins s σ H D I h => ?_⟩
  refine wpAny_execs_cons (thn (h1.run pins s σ H { D with nx := u D } I h) fun f s1 ⟨k1, q⟩ => ?_)
  cases f with
  | next =>
    obtain ⟨σ', H', I', q⟩ := q
    exact h2.run pins s1 σ' H' D k1 I' q
  | ret v => exact q
  | brk => exact q
  | cont => exact q
theorem st_for {iter tg : Expr} {wi : TI} {g : TG} {tb : TS} (hp : PassesOwn (model X.prog X.w) X.A X.env X.xe) (hc : X.calm = true) (hi : PI X tg iter wi) (hg : PG X tg g) (hb : BT X bd tb)
    (hs : ∀ x, foldedSetIterable iter X.env x = pure x := by intro _; rfl) : ST X (.For tg iter bd [] pos) (tFor wi g tb) := by
  refine ⟨fun pins s σ H D hk I h => ?_⟩
  refine wpAny_For (thnK hk (hi.run pins s σ H _ I h) fun v s1 k1 h1 => thnK k1 h1 fun itv s2 k2 h2 => ?_) hs
  obtain ⟨it, fp, tn, J, H2, e, I2, T, st2, f2, W, ⟨m0, w0⟩, turn⟩ := h2
  subst e
  have stat : ∀ {H' : Hp}, (∀ b ∈ fp, H' b = none) → ∀ b ∈ fp, FpOk X pins H' b := fun hn b hb => ⟨hn b hb, (f2 b hb).2⟩
  refine codeAny_forLoop_any (fun n s' => 1 ≤ s'.toks ∧ ∃ i σ' H', Inv X pins σ' H' s' ∧ tn i s'.heap ∧ (∀ b ∈ fp, H' b = none) ∧ W i n σ' H') ?_ m0 ⟨k2, 0, σ, H2, I2, st2, fun b hb => (f2 b hb).1, w0⟩
  rintro n s3 ⟨k3, i, σ3, H3, I3, st3, fr3, w3⟩
  rcases turn i n σ3 H3 w3 with ⟨stop, qn⟩ | ⟨go, N, hN, step⟩
  · refine wpAny_passesOwn hp (thn (T.done X rfl rfl rfl hc i pins s3 σ3 H3 X.xe I3 (stat fr3) st3 stop) fun r s4 ⟨hr, I4⟩ => ?_)
    subst hr
    exact wpAny_execs_nil ⟨σ3, H3, I4, qn⟩
  · refine wpAny_passesOwn hp (thnK k3 (T.item X rfl rfl rfl hc i pins s3 σ3 H3 X.xe I3 (stat fr3) st3 go) fun r s4 k4 ⟨u, hr, h4⟩ => ?_)
    subst hr
    refine wpAny_passesOwn hp (thnK k4 h4 fun _ s5 k5 ⟨x, H5, I5, r5, y5, st5, fr5⟩ => ?_)
    have I5' := I5.pinned (stat fr5) (T.obj _ _ st5)
    refine wpAny_passesOwn hp (thnK k5 (hg.run _ s5 σ3 H5 x u _ I5' r5 (step x H5 y5)) fun _ s6 k6 ⟨σ6, H6, I6, q6⟩ => ?_)
    refine wpAny_passesOwn hp (thnK k6 (hb.run _ s6 σ6 H6 _ k6 I6 q6) fun f s7 k7 q7 => ?_)
    have again : ∀ {σ7 : L2.St} {H7 : Hp}, Inv X (pins ++ pinsAt fp s5.heap) σ7 H7 s7 → N σ7 H7 → ∃ m, m < n ∧ 1 ≤ s7.toks ∧ ∃ i σ' H', Inv X pins σ' H' s7 ∧ tn i s7.heap ∧ (∀ b ∈ fp, H' b = none) ∧ W i m σ' H' := fun {σ7 H7} I7 n7 => by
      obtain ⟨m', hm, w7⟩ := hN σ7 H7 n7
      refine ⟨m', hm, k7, i + 1, σ7, H7, I7.unpinned, T.keep _ _ _ st5 fun b hb o e => (I7.pin (b, o) (List.mem_append_right _ (List.mem_append_right _ (mem_pinsAt hb e)))).1, fun b hb => ?_, w7⟩
      obtain ⟨o, e, d⟩ := T.obj _ _ st5 b hb
      exact (I7.pin (b, o) (List.mem_append_right _ (List.mem_append_right _ (mem_pinsAt hb e)))).2.1
    cases f with
    | next => obtain ⟨σ7, H7, I7, n7⟩ := q7; exact again I7 n7
    | cont => obtain ⟨σ7, H7, I7, n7⟩ := q7; exact again I7 n7
    | brk => obtain ⟨σ7, H7, I7, q7⟩ := q7; exact ⟨σ7, H7, I7.unpinned, q7⟩
    | ret v => obtain ⟨x7, σ7, H7, I7, r7, q7⟩ := q7; exact ⟨x7, σ7, H7, I7.unpinned, r7, q7⟩
theorem st_while {tb : TS} (hp : PassesOwn (model X.prog X.w) X.A X.env X.xe) (hc : TT' X c uC) (hb : BT X bd tb) : ST X (.While c bd [] pos) (tWhile uC tb) := by
  refine ⟨fun pins s σ H D hk I h => ?_⟩
  obtain ⟨W, ⟨m0, w0⟩, turn⟩ := h
  refine wpAny_While (codeAny_whileLoop (fun n s' => 1 ≤ s'.toks ∧ ∃ σ' H', Inv X pins σ' H' s' ∧ W n σ' H') ?_ m0 ⟨hk, σ, H, I, w0⟩)
  rintro n s1 ⟨k1, σ1, H1, I1, w1⟩
  refine wpAny_passesOwn hp (thnK k1 (hc.run pins s1 σ1 H1 _ k1 I1 (turn n σ1 H1 w1)) fun b s2 k2 ⟨H2, I2, q2⟩ => ?_)
  cases b with
  | true =>
    obtain ⟨N, hN, q2⟩ := q2
    rw [if_pos rfl]
    refine wpAny_passesOwn hp (thnK k2 (hb.run pins s2 σ1 H2 _ k2 I2 q2) fun f s3 k3 q3 => ?_)
    cases f with
    | next =>
      obtain ⟨σ3, H3, I3, n3⟩ := q3
      obtain ⟨m', hm, w3⟩ := hN σ3 H3 n3
      exact ⟨m', hm, k3, σ3, H3, I3, w3⟩
    | cont =>
      obtain ⟨σ3, H3, I3, n3⟩ := q3
      obtain ⟨m', hm, w3⟩ := hN σ3 H3 n3
      exact ⟨m', hm, k3, σ3, H3, I3, w3⟩
    | brk => exact q3
    | ret v => exact q3
  | false =>
    rw [if_neg Bool.false_ne_true]
    exact wpAny_execs_nil ⟨σ1, H2, I2, q2⟩
/-- calls of own defs -/
theorem run_fnT {CX : CXT} {k : Nat} {f : Addr} {fd : FuncData} {ps : List Str} {ds : List Value} {dvs : List V} {sp : Sp} {E : XK} {pins : List (Addr × Obj)} {σ : L2.St} {H : Hp} {s : Shared} {Q : VK} {us : List Value} {vs : List V} (F : FnT X.prog X.w X.K X.mg X.base CX k f fd ps sp) (hr : Room k X.A) (hb : Binds X.K fd ps ds) (hd : Vals dvs ds) (hx : Passes CX X E)
    (hk : 1 ≤ s.toks) (I : Inv X pins σ H s) (r : Vals vs us) (h : sp (vs ++ dvs) H Q E) : wpAny (model X.prog X.w) X.A (call (.ref f) us) (EP X pins σ Q) X.xe s := by
  have r2 : Vals (vs ++ dvs) (us ++ ds) := r.append hd
  have hl : (us ++ ds).length = ps.length := by rw [← r2.length]; exact F.len _ _ _ _ h
  refine wpAny_call (codeAny_mono (F.run X.A X.stack s H ⟨us, []⟩ (us ++ ds) (vs ++ dvs) Q E hk hr I.env0 (hb s us I.kIn hl) r2 h) fun r s' hq => ?_)
  cases r with
  | error e => exact hx pins σ H s e s' I hq
  | ok fl =>
    cases fl with
    | ret u => exact I.after hq
    | next => exact False.elim hq
    | brk => exact False.elim hq
    | cont => exact False.elim hq
theorem run_fnK {CX : CXT} {k : Nat} {f : Addr} {fd : FuncData} {ps : List Str} {ds : List Value} {dvs : List V} {sp : Sp} {E : XK} {pins : List (Addr × Obj)} {σ : L2.St} {H : Hp} {s : Shared} {Q : VK} {us : List Value} {vs : List V} (F : FnK X.prog X.w X.K X.mg X.base CX k f fd ps sp) (hr : Room k X.A) (hb : Binds X.K fd ps ds) (hd : Vals dvs ds) (hx : Passes CX X E)
    (I : Inv X pins σ H s) (r : Vals vs us) (h : sp (vs ++ dvs) H Q E) : wpAny (model X.prog X.w) X.A (call (.ref f) us) (fun u s' => 1 ≤ s'.toks ∧ EP X pins σ Q u s') X.xe s := by
  have r2 : Vals (vs ++ dvs) (us ++ ds) := r.append hd
  have hl : (us ++ ds).length = ps.length := by rw [← r2.length]; exact F.len _ _ _ _ h
  refine wpAny_call (codeAny_mono (F.run X.A X.stack s H ⟨us, []⟩ (us ++ ds) (vs ++ dvs) Q E hr I.env0 (hb s us I.kIn hl) r2 h) fun r s' hq => ?_)
  cases r with
  | error e => exact hx pins σ H s e s' I hq.2
  | ok fl =>
    cases fl with
    | ret u => exact ⟨hq.1.elim (fun ⟨_, z⟩ => nomatch z) _root_.id, I.after hq.2⟩
    | next => exact False.elim hq.2
    | brk => exact False.elim hq.2
    | cont => exact False.elim hq.2
variable {x : Str} {k : Nat} {ps : List Str} {dvs : List V} {sp : Sp} {p : Pos}
theorem et_own (O : OwnT X.prog X.w X.K X.mg X.base x k ps dvs sp) (hr : Room k X.A) (hg : Gl X x) (ha : AT X (e :: es) tx) (hdb : (x == ("__debug__" : Str)) = false := by decide) (he : starEach (e :: es) X.env = (false, eval e X.env) :: starEach es X.env := by rfl) (hpl : (backTo pos (starEach es X.env)).any (·.1) = false := by rfl) :
    ET X (.Call (.Name x p) (e :: es) [] pos) (tCall sp dvs E0 tx) := by
  obtain ⟨f, fd, ds, F, hm, hkp, hb, hd⟩ := O.ex
  refine ⟨fun pins s σ H Q hk I h => ?_⟩
  refine wpAny_Call_Name_kw (ld_glob I hg hm ?_ hdb)
  refine PySem.W.callWith_K (h₀ := X.base) I.ok.mod.kin hkp (thnK hk (ha.run pos pins s σ H _ hk I h) fun us s1 k1 ⟨vs, H1, I1, r, q⟩ => ⟨I1.kIn, ?_⟩) he hpl
  exact run_fnT F hr hb hd pass0 k1 I1 r q
/-- a call of a def without tokens' care, its arguments with it -/
theorem et_ownP (O : Own X.prog X.w X.K X.mg X.base x k ps dvs sp) (hr : Room k X.A) (hg : Gl X x) (ha : AT X (e :: es) tx) (hdb : (x == ("__debug__" : Str)) = false := by decide) (he : starEach (e :: es) X.env = (false, eval e X.env) :: starEach es X.env := by rfl) (hpl : (backTo pos (starEach es X.env)).any (·.1) = false := by rfl) :
    ET X (.Call (.Name x p) (e :: es) [] pos) (tCall sp dvs E0 tx) := by
  obtain ⟨f, fd, ds, F, hm, hkp, hb, hd⟩ := O.ex
  refine ⟨fun pins s σ H Q hk I h => ?_⟩
  refine wpAny_Call_Name_kw (ld_glob I hg hm ?_ hdb)
  refine PySem.W.callWith_K (h₀ := X.base) I.ok.mod.kin hkp (thnK hk (ha.run pos pins s σ H _ hk I h) fun us s1 k1 ⟨vs, H1, I1, r, q⟩ => ⟨I1.kIn, ?_⟩) he hpl
  exact run_fn F hr hb hd pass0 I1 r q
theorem ek_own (O : OwnK X.prog X.w X.K X.mg X.base x k ps dvs sp) (hr : Room k X.A) (hg : Gl X x) (ha : PA X (e :: es) tx) (hdb : (x == ("__debug__" : Str)) = false := by decide) (he : starEach (e :: es) X.env = (false, eval e X.env) :: starEach es X.env := by rfl) (hpl : (backTo pos (starEach es X.env)).any (·.1) = false := by rfl) :
    EK X (.Call (.Name x p) (e :: es) [] pos) (tCall sp dvs E0 tx) := by
  obtain ⟨f, fd, ds, F, hm, hkp, hb, hd⟩ := O.ex
  refine ⟨fun pins s σ H Q I h => ?_⟩
  refine wpAny_Call_Name_kw (ld_glob I hg hm ?_ hdb)
  refine PySem.W.callWith_K (h₀ := X.base) I.ok.mod.kin hkp (thn (ha.run pos pins s σ H _ I h) fun us s1 ⟨vs, H1, I1, r, q⟩ => ⟨I1.kIn, ?_⟩) he hpl
  exact run_fnK F hr hb hd pass0 I1 r q
theorem sk_set {i : Nat} {y : Str} {pos' : Pos} (hN : X.N.Nodup) (hi : X.N[i]? = some y) (hx : Loc X.env.scope y) (he : EK X e te) (hs : swapsWith e (some (.Name y pos')) pos.line X.env = pure false := by rfl) (hf : X.fn y = true ∨ X.env.scope.names.lookup y = some .local := by first | exact .inl rfl | exact .inr rfl | assumption) :
    SK X (.Assign [.Name y pos'] e pos) (tAsg te (gName i)) := by
  refine ⟨fun pins s σ H D I h => ?_⟩
  refine wpAny_Assign_Name (thn (he.run pins s σ H _ I h) fun v s1 ⟨k1, z, H1, I1, r1, q1⟩ => ?_) hs
  exact thnK k1 (store_ok (Q := fun _ s2 => SP X pins D .next s2) I1 hN hi hx r1 (fun s2 I2 => ⟨_, H1, I2, q1⟩) hf) fun _ s2 k2 q => ⟨k2, q⟩
/-- what gives a token out: a written number among the items of a list -/
theorem ek_int {n : Int} {j : Nat} : EK X (.Constant (.int n) j pos) (tC (.int n)) :=
  ⟨fun pins s σ H Q I h => wpAny_Constant_int ⟨Nat.le_add_left 1 _, .int n, H, I.tok _, ⟨_, rfl⟩, h⟩⟩
theorem ak_here (ha : EK X e te) (hr : PA X es tx) (hs : starEach (e :: es) X.env = (false, eval e X.env) :: starEach es X.env := by rfl) : AK X (e :: es) (tCons te tx) := by
  refine ⟨fun pos pins s σ H Q I h => ?_⟩
  rw [hs]
  show wpAny _ _ (spliced ((false, eval e X.env) :: backTo pos (starEach es X.env))) _ _ s
  refine Calls.spliced_cons (thn (ha.run pins s σ H _ I h) fun v s1 ⟨k1, x, H1, I1, r1, q1⟩ => ?_)
  exact thnK k1 (hr.run pos pins s1 σ H1 _ I1 q1) fun us s2 k2 ⟨xs, H2, I2, r2, q2⟩ => ⟨k2, x :: xs, H2, I2, .cons r1 r2, q2⟩
theorem ak_there (ha : PE X e te) (hr : AK X es tx) (hs : starEach (e :: es) X.env = (false, eval e X.env) :: starEach es X.env := by rfl) : AK X (e :: es) (tCons te tx) := by
  refine ⟨fun pos pins s σ H Q I h => ?_⟩
  rw [hs]
  show wpAny _ _ (spliced ((false, eval e X.env) :: backTo pos (starEach es X.env))) _ _ s
  refine Calls.spliced_cons (thn (ha.run pins s σ H _ I h) fun v s1 ⟨x, H1, I1, r1, q1⟩ => ?_)
  exact thn (hr.run pos pins s1 σ H1 _ I1 q1) fun us s2 ⟨k2, xs, H2, I2, r2, q2⟩ => ⟨k2, x :: xs, H2, I2, .cons r1 r2, q2⟩
theorem ek_lst (h : AK X es tx) : EK X (.List es pos) (tLst tx) := by
  refine ⟨fun pins s σ H Q I hq => ?_⟩
  refine wpAny_List_spliced (thn (h.run pos pins s σ H _ I hq) fun us s1 ⟨k1, xs, H1, I1, r, z, q⟩ => ⟨by rw [← r.length]; exact z, ?_⟩)
  have hf : H1 s1.heap.objs.size = none := I1.hok.fresh (Nat.le_refl _)
  refine ⟨k1, .ref s1.heap.objs.size, upd H1 s1.heap.objs.size (.lst xs), I1.laid (t' := s1.toks) (fun b u e => Heap.get?_push_of_some _ e) (Nat.le_refl _) ?_, rfl, q _ hf⟩
  exact ⟨z, us, 0, r, Heap.get?_push_size _ rfl⟩
theorem sk_ret (he : EK X e te) : SK X (.Return (some e) pos) (tRet te) :=
  ⟨fun pins s σ H D I h => wpAny_Return_some (thn (he.run pins s σ H _ I h) fun v s1 ⟨k1, x, H1, I1, r1, q1⟩ => ⟨k1, x, σ, H1, I1, r1, q1⟩)⟩
theorem bk_one (h1 : SK X st t) : BK X [st] t := by
  refine ⟨fun pins s σ H D I h => ?_⟩
  refine wpAny_execs_cons (thn (h1.run pins s σ H D I h) fun f s1 ⟨k1, q⟩ => ?_)
  cases f with
  | next => exact wpAny_execs_nil ⟨k1, q⟩
  | ret v => exact ⟨k1, q⟩
  | brk => exact ⟨k1, q⟩
  | cont => exact ⟨k1, q⟩
end

/-! ### defs by their bodies: plain, from states with a token, giving one out -/
theorem BT.nox {X : Cx} {st : List Stmt} {t : TS} (h : BT X.nox st t) : BT X st t := ⟨fun pins s σ H D hk I hw =>
  wpAny_mono (h.run pins s σ H D hk (I.wish _) hw) (fun _ _ q => q.unwish) fun _ _ z => False.elim z⟩
theorem BK.nox {X : Cx} {st : List Stmt} {t : TS} (h : BK X.nox st t) : BK X st t := ⟨fun pins s σ H D I hw =>
  wpAny_mono (h.run pins s σ H D (I.wish _) hw) (fun _ _ q => ⟨q.1, q.2.unwish⟩) fun _ _ z => False.elim z⟩
abbrev Fn (K : PySem.W.Frag) (x : Str) (st : Stmt) (dvs : List V) (f : Addr) (fd : FuncData) : Prop := FunD K x x (defArgs st) (defBody st) (defScope st) dvs [] f fd
section
variable {P : Program} {w : World} {K : PySem.W.Frag} {mg : Str → Option Value} {base : Heap} {x : Str} {st : Stmt} {dvs : List V} {f : Addr} {fd : FuncData} {N ps : List Str} {k : Nat} {sp : Sp}
theorem Fn.mk' {oc dV kV doc pm cdv ct : Value} {od an : Option Addr} {osl : Array (Option Value)} (l : K.lookup f = some ⟨oc, od, .func (PySem.W.fnOf x x (defArgs st) (defBody st) (defScope st) dV kV doc pm an cdv ct), osl⟩)
    (c : PySem.W.codeIn K cdv x = true) (h : PySem.W.keepIn K (.ref f) = true) (d : DflV K dV dvs) : Fn K x st dvs f (PySem.W.fnOf x x (defArgs st) (defBody st) (defScope st) dV kV doc pm an cdv ct) :=
  ⟨⟨oc, od, dV, kV, doc, pm, an, cdv, ct, osl, rfl, l, c, d, .inl rfl⟩, h⟩
theorem Fn.okN (F : Fn K x st dvs f fd) (S : FnScope N ps (defScope st)) (len : ∀ vs H Q E, sp vs H Q E → vs.length = ps.length)
    (hbody : ∀ (cdv : Value) (A : Around) (outer : List Env) (s : Shared) (H : Hp) (vs : List V) (Q : VK) (E : XK), Room k (A.deeper (envOfC x (defScope st) s.heap.objs.size f cdv)) → sp vs H Q E →
      ∃ t, PSs (cxOf CX0 P w K mg base N x (defScope st) f cdv A outer s H E).nox (defBody st) t ∧ t { nx := fun _ H' => Q .non H', rt := Q } (start N vs) H) : FnOk P w K mg base CX0 (k + 1) f fd ps sp :=
  FunD.ok F S len fun cdv A outer s H vs Q E hr hsp => by
    obtain ⟨t, h, q⟩ := hbody cdv A outer s H vs Q E hr hsp
    exact ⟨t, h.nox, q⟩
theorem Fn.okT (F : Fn K x st dvs f fd) (S : FnScope N ps (defScope st)) (len : ∀ vs H Q E, sp vs H Q E → vs.length = ps.length)
    (hbody : ∀ (cdv : Value) (A : Around) (outer : List Env) (s : Shared) (H : Hp) (vs : List V) (Q : VK) (E : XK), Room k (A.deeper (envOfC x (defScope st) s.heap.objs.size f cdv)) → sp vs H Q E →
      ∃ t, BT (cxOf CX0 P w K mg base N x (defScope st) f cdv A outer s H E).nox (defBody st) t ∧ t { nx := fun _ H' => Q .non H', rt := Q } (start N vs) H) : FnT P w K mg base CX0 (k + 1) f fd ps sp := by
  obtain ⟨oc, od, dV, kV, doc, pm, an, cdv, ct, osl, rfl, lk, hcd, _, _⟩ := F.ex
  refine ⟨len, fun A outer s H args us vs Q E hk hr e0 hb r hsp => ?_⟩
  have hl := len _ _ _ _ hsp
  have KX : K.In s.heap := e0.mod.kin.keeps fun b o e => (e0.bs b o e).1
  have lim : s.heap.NoLimit := e0.mod.nolimit.keeps fun b o e => (e0.bs b o e).1
  have hkind : ∀ y ∈ ps.zip us, (defScope st).names.lookup y.1 = some .local ∨ ((defScope st).names.lookup y.1 = some .cell ∧ ((cellsFrom (s.heap.objs.size + 1) (defScope st).names []).lookup y.1).isSome = true) := fun ⟨n, v⟩ hy => by
    rcases S.par n (List.of_mem_zip hy).1 with q | q
    · exact .inl q
    · exact .inr ⟨q, PySem.W.cellsFrom_some _ _ _ (.inl q)⟩
  refine codeAny_call_function hr.depth (KX _ _ lk) rfl S.co S.gen rfl (PySem.W.codeRec_of KX hcd) (hb _ _ _ _ ?_)
  refine PySem.wpAny_with_toks hk ?_
  refine wpAny_newFunctionEnv_cells S.kind hkind fun env he s1 xx => ?_
  intro k1
  subst he
  refine ⟨lim.keeps xx.toInCall.keep, codeAny_func ?_⟩
  obtain ⟨t, ht, hq⟩ := hbody cdv A outer s H vs Q E (hr.deeper _) hsp
  have I : Inv (cxOf CX0 P w K mg base N x (defScope st) f cdv A outer s H E) [] (start N vs) H s1 := inv_start S hr.hd e0 hl r xx
  refine wpAny_mono (ht.nox.run [] s1 (start N vs) H _ k1 I hq) (fun fl s' hs => ?_) fun e s' hs => hs
  have fin : ∀ {σ' : L2.St} {H' : Hp} {v : V} {u : Value}, Inv (cxOf CX0 P w K mg base N x (defScope st) f cdv A outer s H E) [] σ' H' s' → RelV v u → Q v H' → CE outer P w H s Q u s' :=
    fun {σ' H' v u} J rv q => ⟨v, H', J.os, J.bare, J.base, J.hok, rv, q⟩
  cases fl with
  | ret u =>
    obtain ⟨v, σ', H', J, rv, q⟩ := hs
    exact fin J rv q
  | next =>
    obtain ⟨σ', H', J, q⟩ := hs
    exact fin (v := V.non) (u := Value.none) J rfl q
  | brk =>
    obtain ⟨_, _, _, q⟩ := hs
    exact False.elim q
  | cont =>
    obtain ⟨_, _, _, q⟩ := hs
    exact False.elim q
theorem Fn.okK (F : Fn K x st dvs f fd) (S : FnScope N ps (defScope st)) (len : ∀ vs H Q E, sp vs H Q E → vs.length = ps.length)
    (hbody : ∀ (cdv : Value) (A : Around) (outer : List Env) (s : Shared) (H : Hp) (vs : List V) (Q : VK) (E : XK), Room k (A.deeper (envOfC x (defScope st) s.heap.objs.size f cdv)) → sp vs H Q E →
      ∃ t, BK (cxOf CX0 P w K mg base N x (defScope st) f cdv A outer s H E).nox (defBody st) t ∧ t { nx := fun _ H' => Q .non H', rt := Q } (start N vs) H) : FnK P w K mg base CX0 (k + 1) f fd ps sp := by
  obtain ⟨oc, od, dV, kV, doc, pm, an, cdv, ct, osl, rfl, lk, hcd, _, _⟩ := F.ex
  refine ⟨len, fun A outer s H args us vs Q E hr e0 hb r hsp => ?_⟩
  have hl := len _ _ _ _ hsp
  have KX : K.In s.heap := e0.mod.kin.keeps fun b o e => (e0.bs b o e).1
  have lim : s.heap.NoLimit := e0.mod.nolimit.keeps fun b o e => (e0.bs b o e).1
  have hkind : ∀ y ∈ ps.zip us, (defScope st).names.lookup y.1 = some .local ∨ ((defScope st).names.lookup y.1 = some .cell ∧ ((cellsFrom (s.heap.objs.size + 1) (defScope st).names []).lookup y.1).isSome = true) := fun ⟨n, v⟩ hy => by
    rcases S.par n (List.of_mem_zip hy).1 with q | q
    · exact .inl q
    · exact .inr ⟨q, PySem.W.cellsFrom_some _ _ _ (.inl q)⟩
  refine codeAny_call_function hr.depth (KX _ _ lk) rfl S.co S.gen rfl (PySem.W.codeRec_of KX hcd) (hb _ _ _ _ ?_)
  refine wpAny_newFunctionEnv_cells S.kind hkind fun env he s1 xx => ?_
  subst he
  refine ⟨lim.keeps xx.toInCall.keep, codeAny_func ?_⟩
  obtain ⟨t, ht, hq⟩ := hbody cdv A outer s H vs Q E (hr.deeper _) hsp
  have I : Inv (cxOf CX0 P w K mg base N x (defScope st) f cdv A outer s H E) [] (start N vs) H s1 := inv_start S hr.hd e0 hl r xx
  refine wpAny_mono (ht.nox.run [] s1 (start N vs) H _ I hq) (fun fl s' hs => ?_) fun e s' hs => ?_
  · obtain ⟨kk, hs⟩ := hs
    have fin : ∀ {σ' : L2.St} {H' : Hp} {v : V} {u : Value}, Inv (cxOf CX0 P w K mg base N x (defScope st) f cdv A outer s H E) [] σ' H' s' → RelV v u → Q v H' → ((∃ e : Value, (Except.ok (Flow.ret u) : Result) = .error e) ∨ 1 ≤ s'.toks) ∧ CE outer P w H s Q u s' :=
      fun {σ' H' v u} J rv q => ⟨.inr kk, v, H', J.os, J.bare, J.base, J.hok, rv, q⟩
    cases fl with
    | ret u =>
      obtain ⟨v, σ', H', J, rv, q⟩ := hs
      exact fin J rv q
    | next =>
      obtain ⟨σ', H', J, q⟩ := hs
      have z := fin (v := V.non) (u := Value.none) J rfl q
      exact ⟨.inr kk, z.2⟩
    | brk =>
      obtain ⟨_, _, _, q⟩ := hs
      exact False.elim q
    | cont =>
      obtain ⟨_, _, _, q⟩ := hs
      exact False.elim q
  · exact wpAny_mono hs (fun _ _ z => ⟨.inl ⟨_, rfl⟩, z⟩) (fun _ _ z => ⟨.inl ⟨_, rfl⟩, z⟩)
end

/-! ### further rules: text.replace of written texts, get of a written dict, in a tuple of data -/
section
variable {X : Cx} {o e : Expr} {to te : TE}
def tRepl (y z : Str) (to : TE) : TE := fun σ H Q => to σ H fun x H1 => ∃ a : Str, x = .str a ∧ a.length + (a.length + 1) * z.length ≤ 16777216 ∧ Q (.str (Txt.replace a y z)) H1
theorem et_repl {y z : Str} {j0 j1 : Nat} {c0 c1 apos pos : Pos} (ho : ET X o to) (hyz : (y == z) = false) (hst : starEach [.Constant (.str y) j0 c0, .Constant (.str z) j1 c1] X.env = [(false, eval (.Constant (.str y) j0 c0) X.env), (false, eval (.Constant (.str z) j1 c1) X.env)] := by rfl)
    (hbase : attributeBase o "replace" X.env (eval o X.env) = eval o X.env := by rfl) (hline : (apos.endLine == pos.line) = true := by rfl) :
    ET X (.Call (.Attribute o "replace" apos) [.Constant (.str y) j0 c0, .Constant (.str z) j1 c1] [] pos) (tRepl y z to) := by
  refine ⟨fun pins s σ H Q hk I h => ?_⟩
  refine PySem.Call_method2 hbase hst hline (thnK hk (ho.run pins s σ H _ hk I h) fun v s1 k1 ⟨x, H1, I1, r1, a, ex, hb, q⟩ => ?_)
  subst ex
  obtain ⟨tx, rfl⟩ := r1
  refine ⟨"str", _, PySem.F.plainAttrs_str, PySem.F.slot_str_replace, PySem.F.type_str_replace, typeIs_str _ _ _, (fun _ e => nomatch e), Calls.callWith_builtin rfl (Calls.evalArgs_plain (Calls.spliced_cons (Calls.Constant_str (Calls.spliced_cons (Calls.Constant_str (Calls.spliced_nil ?_))))))⟩
  exact PySem.SC.replace (show s1.toks ≠ 0 by omega) (show s1.toks + 1 ≠ 0 by omega) (show s1.toks ≠ s1.toks + 1 by omega) hyz hb fun t' k => ⟨.str (Txt.replace a y z), H1, I1.tok k, ⟨t', rfl⟩, q⟩
/-- d.get(key) of a written dict with text keys -/
def tKGet (K : PySem.W.Frag) (d : Addr) (to te : TE) : TE := fun σ H Q => to σ H fun x H1 => x = .ref d ∧ te σ H1 fun y H2 => ∃ (z : Str) (r : Option Value) (v : V), y = .str z ∧ PySem.W.nsIn K d z = some r ∧ RelV v (r.getD .none) ∧ Q v H2
theorem pe_kget {d : Addr} {es : Array DictEntry} {n : Nat} {apos cpos : Pos} (D : KDict X.K X.w d es n) (ho : PE X o to) (he : PE X e te) (m : M1 X o "get" apos e cpos) : PE X (.Call (.Attribute o "get" apos) [e] [] cpos) (tKGet X.K d to te) := by
  refine ⟨fun pins s σ H Q I h => ?_⟩
  refine wpAny_Call_method m.base m.few m.line PySem.F.plainAttrs_dict PySem.F.slot_dict_get PySem.F.type_dict_get (thn (ho.run pins s σ H _ I h) fun u s1 ⟨x, H1, I1, rx, ex, q1⟩ => ?_)
  subst ex
  obtain rfl : u = Value.ref d := rx
  refine ⟨kd_type D I1, fun a ea => ?_, ?_⟩
  · cases ea
    exact ⟨_, I1.kIn _ _ D.at_, rfl⟩
  rw [m.trees]
  refine Calls.callWith_builtin rfl (Calls.evalArgs_plain (Calls.spliced_cons (thn (he.run pins s1 σ H1 _ I1 q1) fun iv s2 ⟨y, H2, I2, ry, z, r, v, ey, e, rv, q2⟩ => Calls.spliced_nil ?_)))
  subst ey
  obtain ⟨t, rfl⟩ := ry
  refine call_meetsIn PySem.F.slot_dict_get (kd_type D I2) PySem.F.entry_dict_get (PySem.F.args_dict_get_2 _ _) (meets_dict_get (PySem.strKind X.prog X.w) d (PySem.strKind_is X.prog X.w z t) D.low) ⟨_, PySem.W.mapOf_K (prog := X.prog) I2.kIn D.at_ D.lit, ?_⟩
  rw [PySem.W.find_K D.at_ e]
  exact ⟨v, H2, I2.tok _, rv, q2⟩
/-- x in (.., ..), the items data of any depth -/
def rInT (K : PySem.W.Frag) : R2 := fun x y H Q => ∃ d ds, Dp K H x d ∧ Dp K H y (.tuple ds) ∧ SeqAt.shaped d = true ∧ SeqAt.shaped (.tuple ds) = true ∧ d.depth ≤ 60 ∧ Q (.bl (ds.any fun z => PyData.eqv z d)) H
theorem op_inT (hu : X.A.units + 64 < cLine) : OpR X (compareOp .In) (rInT X.K) := by
  intro pins s σ H x y v u Q I rx ry h
  obtain ⟨d, ds, hd, he, sd, se, dl, q⟩ := h
  obtain ⟨as, r1⟩ := Dp.reads I d x v hd rx
  obtain ⟨bs, r2⟩ := Dp.reads I (.tuple ds) y u he ry
  exact SeqAt.in_tuple_reads r2 r1 (SeqAt.canLay_of_shaped se) (SeqAt.canLay_of_shaped sd) (by omega) ⟨.bl _, H, I, rfl, q⟩
end
section
variable {X : Cx} {a : Expr} {ta : TE}
def tTr (K' : PySem.W.Frag) (ta : TE) : TT := fun σ H Q => ta σ H fun x H1 => ∃ k, TruV K' x H1 k ∧ Q k H1
theorem pt_tr {K' : PySem.W.Frag} (ha : PE X a ta) (hK : X.K = K' := by rfl) (he : ∀ whole, isTrue a X.env whole = (do let v ← whole; standAt a.pos; holding [v] (truthy v)) := by intro _; rfl) : PT X a (tTr K' ta) := by
  subst hK
  exact pt_truth ha he
end

/-! ### a text times a number; pairs of texts -/
theorem op_repS {X : Cx} : OpR X (binaryOp .Mult) (fun x y H Q => ∃ (z : Str) (n : Int), x = .str z ∧ y = .int n ∧ MulOk z n ∧ Q (.str (Txt.mul z n)) H) := by
  intro pins s σ H x y v u Q I rx ry h
  obtain ⟨z, n, rfl, rfl, ok, q⟩ := h
  obtain ⟨t, rfl⟩ := rx
  obtain ⟨t', rfl⟩ := ry
  exact PySem.SB.mul ok fun t' k => ⟨.str (Txt.mul z n), H, I.tok _, ⟨_, rfl⟩, q⟩

/-! ### texts of lists of signs -/
def mk (l : List Nat) : Str := ⟨l.toArray⟩
theorem tl_mk' (l : List Nat) : tl (mk l) = l := rfl
theorem mk_tl' (x : Str) : mk (tl x) = x := ext_tl rfl
theorem mk_len (l : List Nat) : (mk l).length = l.length := by rw [len_tl]; rfl
theorem join_mk (y : List Nat) (ps : List (List Nat)) : Txt.join (mk y) (ps.map mk) = mk (joinL y ps) := by
  refine ext_tl ?_
  rw [join_eq, tl_join, List.map_map]
  show joinL y (ps.map (tl ∘ mk)) = joinL y ps
  have : (tl ∘ mk) = id := by
    funext l
    rfl
  rw [this, List.map_id]
theorem take_filter {α : Type} (p : α → Bool) {l : List α} {i : Nat} {a : α} (h : l[i]? = some a) : (l.take (i + 1)).filter p = (l.take i).filter p ++ (if p a then [a] else []) := by
  rw [List.take_add_one, h, List.filter_append]
  show _ ++ List.filter p [a] = _
  rw [List.filter_cons]
  rfl

/-! ### a text, sign by sign; texts joined -/
theorem for_str {x : Str} {g : TG} {tb : TS} {D : Ends} {σ : L2.St} {H : Hp} (Pv : Nat → L2.St → Hp → Prop) (h0 : Pv 0 σ H)
    (hs : ∀ i c σ H, (tl x)[i]? = some c → Pv i σ H → g (.str ⟨#[c]⟩) σ H fun σ2 H2 => tb { D with nx := Pv (i + 1), ct := Pv (i + 1), bk := D.nx } σ2 H2) (hd : ∀ σ H, Pv (tl x).length σ H → D.nx σ H) :
    ∃ W : Nat → Nat → L2.St → Hp → Prop, (∃ m, W 0 m σ H) ∧ ∀ i m σ H, W i m σ H →
      ((Its x).stop i H ∧ D.nx σ H) ∨ ((Its x).go i H ∧ ∃ N : L2.St → Hp → Prop, (∀ σ' H', N σ' H' → ∃ m', m' < m ∧ W (i + 1) m' σ' H') ∧ ∀ y H', (Its x).yld i H y H' → g y σ H' fun σ2 H2 => tb { D with nx := N, ct := N, bk := D.nx } σ2 H2) := by
  have sz : x.cps.size = (tl x).length := by simp [tl]
  refine ⟨fun i m σ H => m = (tl x).length - i ∧ i ≤ (tl x).length ∧ Pv i σ H, ⟨(tl x).length, by simp, Nat.zero_le _, h0⟩, ?_⟩
  rintro i m σ H ⟨rfl, hi, p⟩
  by_cases hlt : i < (tl x).length
  · refine .inr ⟨by show i < x.cps.size; omega, Pv (i + 1), fun σ' H' p' => ⟨(tl x).length - (i + 1), by omega, rfl, hlt, p'⟩, fun y H' z => ?_⟩
    obtain ⟨e, c, hc, ey⟩ := z
    subst e ey
    exact hs i c σ _ (by rw [← hc]; simp [tl]) p
  · have e : i = (tl x).length := by omega
    subst e
    exact .inl ⟨by show x.cps.size ≤ (tl x).length; omega, hd σ H p⟩
theorem len_join (y : Str) (m : Nat) : ∀ ws : List Str, (∀ w ∈ ws, w.length ≤ m) → (Txt.join y ws).length ≤ (m + y.length) * ws.length := by
  intro ws h
  rw [join_eq, len_tl, tl_join]
  have hy : y.length = (tl y).length := len_tl y
  induction ws with
  | nil => exact Nat.zero_le _
  | cons a r ih =>
    have ha : (tl a).length ≤ m := by
      rw [← len_tl]
      exact h a (List.mem_cons_self ..)
    have ihr := ih fun w hw => h w (List.mem_cons_of_mem _ hw)
    cases r with
    | nil =>
      show (tl a).length ≤ (m + y.length) * 1
      omega
    | cons b r =>
      show (tl a ++ (tl y ++ joinL (tl y) ((b :: r).map tl))).length ≤ _
      rw [List.length_append, List.length_append, List.length_cons (a := a), Nat.mul_succ]
      omega
theorem sum_len (m : Nat) : ∀ ws : List Str, (∀ w ∈ ws, w.length ≤ m) → (ws.map (·.length)).sum ≤ m * ws.length
  | [], _ => Nat.zero_le _
  | a :: r, h => by
    have ih := sum_len m r fun w hw => h w (List.mem_cons_of_mem _ hw)
    have ha := h a (List.mem_cons_self ..)
    rw [List.map_cons, List.sum_cons, List.length_cons, Nat.mul_succ]
    omega

/-! ### the source of draws -/
/-- a source of draws stands at D: its two lists at A and B, so many draws made -/
structure Drw (H : Hp) (D A B : Addr) (n : Int) : Prop where
  ex : ∃ (as bs : List Int) (c : Int), H D = some (.lst [.ref A, .int c, .ref B, .int n]) ∧ H A = some (.lst (as.map V.int)) ∧ H B = some (.lst (bs.map V.int))
  ab : A ≠ B
  pos : 0 ≤ n
/-- all but what a draw may change stands as it stood -/
def Kept (D A : Addr) (H H' : Hp) : Prop := ∀ b o, H b = some o → b ≠ D → b ≠ A → H' b = some o
theorem Kept.refl {D A : Addr} {H : Hp} : Kept D A H H := fun _ _ e _ _ => e
theorem Kept.trans {D A : Addr} {H H' H'' : Hp} (h : Kept D A H H') (k : Kept D A H' H'') : Kept D A H H'' := fun b o e n m => k b o (h b o e n m) n m
theorem Kept.of {D A : Addr} {H H' : Hp} (h : Same H H') : Kept D A H H' := fun b o e _ _ => h b o e
theorem Kept.upd {D A p : Addr} {o : HO} {H H' : Hp} (h : Kept D A H H') (hp : H p = none) : Kept D A H (L2.upd H' p o) := fun b x e n m => by
  rw [upd_ne (ne_of_none e hp)]
  exact h b x e n m
theorem Drw.same {H H' : Hp} {D A B : Addr} {n : Int} (h : Drw H D A B n) (k : Same H H') : Drw H' D A B n := by
  obtain ⟨⟨as, bs, c, h1, h2, h3⟩, h4, h5⟩ := h
  exact ⟨⟨as, bs, c, k _ _ h1, k _ _ h2, k _ _ h3⟩, h4, h5⟩
theorem Drw.tracked {H : Hp} {D A B : Addr} {n : Int} (h : Drw H D A B n) : (∃ o, H D = some o) ∧ (∃ o, H A = some o) ∧ ∃ o, H B = some o := by
  obtain ⟨⟨as, bs, c, h1, h2, h3⟩, h4, h5⟩ := h
  exact ⟨⟨_, h1⟩, ⟨_, h2⟩, ⟨_, h3⟩⟩
/-- a change at a third place -/
theorem Drw.upd {H : Hp} {D A B p : Addr} {o : HO} {n : Int} (h : Drw H D A B n) (hD : p ≠ D) (hA : p ≠ A) (hB : p ≠ B) : Drw (L2.upd H p o) D A B n := by
  obtain ⟨⟨as, bs, c, h1, h2, h3⟩, h4, h5⟩ := h
  exact ⟨⟨as, bs, c, by rw [upd_ne (Ne.symm hD)]; exact h1, by rw [upd_ne (Ne.symm hA)]; exact h2, by rw [upd_ne (Ne.symm hB)]; exact h3⟩, h4, h5⟩
theorem Drw.new {H : Hp} {D A B p : Addr} {o : HO} {n : Int} (h : Drw H D A B n) (hp : H p = none) : Drw (L2.upd H p o) D A B n := h.same (same_new hp)

theorem canLay_ints (ns : List Int) : PyData.canLayAll0 (ns.map PyData.int) = true := by
  induction ns with
  | nil => rfl
  | cons x r ih => simpa [PyData.canLayAll0, PyData.canLay0] using ih
theorem depth_ints (ns : List Int) : PyData.depthAll (ns.map PyData.int) ≤ 1 := by
  induction ns with
  | nil => simp [PyData.depthAll]
  | cons x r ih => simp [PyData.depthAll, PyData.depth]; omega
theorem shaped_ints (ns : List Int) : SeqAt.shaped (.list (ns.map PyData.int)) = true := by
  have h1 := canLay_ints ns
  have h2 := depth_ints ns
  simp [SeqAt.shaped, PyData.canLay0, PyData.depth, h1]
  omega
theorem dp_ints {K : PySem.W.Frag} {H : Hp} : ∀ (ns : List Int), DpAll K H (ns.map V.int) (ns.map PyData.int)
  | [] => .nil
  | x :: r => .cons (.int x) (dp_ints r)
theorem eqv_nil (ns : List Int) : PyData.eqv (.list (ns.map PyData.int)) (.list []) = ns.isEmpty := by
  cases ns <;> simp [PyData.eqv, PyData.eqvAll]

section
variable {P : Program} {w : World} {K : PySem.W.Frag} {mg : Str → Option Value} {base : Heap}
/-! ### _law_mixed -/
def sp_law_mixed : Sp := fun vs H Q _ => ∃ (s k : Int), vs = [.int s, .int k] ∧ 0 ≤ k ∧ k < 4194304 ∧ ∀ r, Q (.int r) H
theorem ok_law_mixed {f : Addr} {fd : FuncData} {dvs : List V} (F : Fn K "_law_mixed" s_law_mixed dvs f fd) : FnOk P w K mg base CX0 1 f fd ["seed", "k"] (sp_law_mixed) := by
  refine Fn.okN F sc_law_mixed (fun vs H Q E h => ?_) (fun cdv A outer s H vs Q E hr h => ?_)
  · obtain ⟨_, _, rfl, _⟩ := h
    rfl
  · obtain ⟨x, y, rfl, y0, y1, k⟩ := h
    refine ⟨_, (pss_cons (ps_set (i := 2) sc_law_mixed.nd rfl (.inl rfl) (pe_op op_mod (pe_op op_pow (pe_op op_add (pe_op op_add (pe_op op_mod (pv 0) pe_int) (pe_op op_mul pe_int (pv 1))) pe_int) pe_int) pe_int))
      (pss_one (ps_ret (pe_op op_mod (pe_op op_pow (pe_op op_add (pe_op op_add (pe_op op_mul (pv 2) pe_int) (pe_op op_mul (pe_op op_mul pe_int (pv 1)) (pv 1))) pe_int) pe_int) pe_int)))), ?_⟩
    have e1 : 0 ≤ x % 2147483647 := Int.emod_nonneg _ (by decide)
    have e2 : x % 2147483647 < 2147483647 := Int.emod_lt_of_pos _ (by decide)
    refine ⟨_, rfl, _, _, rfl, rfl, (by show (0 : Int) < 2147483647; decide), _, rfl, _, _, rfl, rfl, .inl ⟨by decide, by decide⟩, _, _, rfl, rfl, _, _, rfl, rfl, _, _, rfl, rfl, ⟨by decide, by decide, ?_⟩, _, _, rfl, rfl, (by show (0 : Int) < 2147483629; decide), ?_⟩
    · generalize x % 2147483647 = m at e1 e2
      omega
    have g1 : ∀ z : Int, 0 ≤ z % 2147483629 := fun z => Int.emod_nonneg _ (by decide)
    have g2 : ∀ z : Int, z % 2147483629 < 2147483629 := fun z => Int.emod_lt_of_pos _ (by decide)
    generalize hz : ((x % 2147483647 + 7919 * y + 104729) ^ (5 : Int).toNat) = z
    have z1 := g1 z
    have z2 := g2 z
    generalize z % 2147483629 = u at z1 z2
    have yy : 40503 * y * y ≤ 40503 * 4194304 * 4194304 := Int.mul_le_mul (by omega) (by omega) y0 (by decide)
    have yy0 : 0 ≤ 40503 * y * y := Int.mul_nonneg (by omega) y0
    refine ⟨_, rfl, _, _, rfl, rfl, .inl ⟨by omega, by omega⟩, _, rfl, _, _, rfl, rfl, .inl ⟨by decide, by decide⟩, _, rfl, _, _, rfl, rfl, .inl ⟨by omega, by omega⟩, _, _, rfl, rfl, _, _, rfl, rfl, _, _, rfl, rfl, ⟨by decide, by decide, ?_⟩, _, _, rfl, rfl, (by show (0 : Int) < 1000000007; decide), ?_⟩
    · generalize 40503 * y * y = q at yy yy0
      omega
    · exact k _
/-! ### _law_draws -/
def sp_law_draws (K : PySem.W.Frag) : Sp := fun vs H Q _ => ∃ (a : Addr) (ns : List Int), vs = [.ref a] ∧ SqL K H a (ns.map V.int) ∧ ns.length ≤ 63 ∧
  ∀ (H' : Hp) (D A B : Addr), Same H H' → Drw H' D A B 0 → H D = none → H A = none → Q (.ref D) H'
theorem ok_law_draws {f : Addr} {fd : FuncData} {dvs : List V} (F : Fn K "_law_draws" s_law_draws dvs f fd) : FnOk P w K mg base CX0 1 f fd ["script"] (sp_law_draws K) := by
  refine Fn.okN F sc_law_draws (fun vs H Q E h => ?_) (fun cdv A outer s H vs Q E hr h => ?_)
  · obtain ⟨_, _, rfl, _⟩ := h
    rfl
  · obtain ⟨a, ns, rfl, hS, hl, k⟩ := h
    refine ⟨_, (pss_one (ps_ret (pe_lst (pa_cons (pe_lc (own := [("item", 1)]) (g := gName 1) (by rfl) sc_law_draws.nd (pi_list (pv 0)) (blkOk_by (own := [("item", 1)]) (N := ["script", "item"]) (sc := defScope s_law_draws) (by decide +kernel)) (fun _ _ _ _ _ => (pg_name (i := 1) sc_law_draws.nd rfl (.inl rfl))) (fun _ _ _ _ _ => (pts_one (pt_cmpR op_ge (pv 1) (pe_op op_pow pe_int pe_int) (nomark _)))) (fun _ _ _ _ _ => (pv 1))) (pa_cons pe_int (pa_cons (pe_lc (own := [("item", 1)]) (g := gName 1) (by rfl) sc_law_draws.nd (pi_list (pv 0)) (blkOk_by (own := [("item", 1)]) (N := ["script", "item"]) (sc := defScope s_law_draws) (by decide +kernel)) (fun _ _ _ _ _ => (pg_name (i := 1) sc_law_draws.nd rfl (.inl rfl))) (fun _ _ _ _ _ => (pts_one (pt_cmpR op_lt (pv 1) (pe_op op_pow pe_int pe_int) (nomark _)))) (fun _ _ _ _ _ => (pv 1))) (pa_cons pe_int pa_nil))))))), ?_⟩
    refine ⟨_, rfl, a, rfl, ⟨_, hS⟩, fun A1 nA => lc_list (K := K) (a := a) (xs := ns.map V.int) (fun i H2 => ∃ acc : List Int, acc.length ≤ i ∧ H2 A1 = some (.lst (acc.map V.int)) ∧ Same H H2)
      ⟨[], Nat.le_refl _, upd_same, same_new nA⟩ (fun i H2 _ h2 => by obtain ⟨_, _, _, s2⟩ := h2; exact s2.seq hS) ?_ ?_⟩
    · rintro i x H2 hi ⟨acc, l2, e2, s2⟩
      obtain ⟨z, rfl⟩ := int_at hi
      have hil : i < (ns.map V.int).length := (List.getElem?_eq_some_iff.mp hi).1
      rw [List.length_map] at hil
      refine ⟨rfl, _, rfl, _, _, rfl, rfl, ⟨by decide, by decide, by decide⟩, _, _, rfl, rfl, _, rfl, ite2 (fun _ => ?_) (fun _ => ?_)⟩
      · refine ⟨_, rfl, _, e2, by rw [List.length_map]; exact small1000 (by omega), acc ++ [z], by rw [List.length_append]; exact Nat.succ_le_succ l2, ?_, fun b o e => ?_⟩
        · rw [upd_same, List.map_append]
          rfl
        · rw [upd_ne (ne_of_none e nA)]
          exact s2 b o e
      · exact ⟨acc, by omega, e2, s2⟩
    · rintro H2 ⟨as, l2, e2, s2⟩
      refine ⟨_, rfl, a, rfl, ⟨_, s2.seq hS⟩, fun B1 nB => lc_list (K := K) (a := a) (xs := ns.map V.int) (fun i H3 => ∃ acc : List Int, acc.length ≤ i ∧ H3 B1 = some (.lst (acc.map V.int)) ∧ Same H2 H3)
        ⟨[], Nat.le_refl _, upd_same, same_new nB⟩ (fun i H3 _ h3 => by obtain ⟨_, _, _, s3⟩ := h3; exact (s2.trans s3).seq hS) ?_ ?_⟩
      · rintro i x H3 hi ⟨acc, l3, e3, s3⟩
        obtain ⟨z, rfl⟩ := int_at hi
        have hil : i < (ns.map V.int).length := (List.getElem?_eq_some_iff.mp hi).1
        rw [List.length_map] at hil
        refine ⟨rfl, _, rfl, _, _, rfl, rfl, ⟨by decide, by decide, by decide⟩, _, _, rfl, rfl, _, rfl, ite2 (fun _ => ?_) (fun _ => ?_)⟩
        · refine ⟨_, rfl, _, e3, by rw [List.length_map]; exact small1000 (by omega), acc ++ [z], by rw [List.length_append]; exact Nat.succ_le_succ l3, ?_, fun b o e => ?_⟩
          · rw [upd_same, List.map_append]
            rfl
          · rw [upd_ne (ne_of_none e nB)]
            exact s3 b o e
        · exact ⟨acc, by omega, e3, s3⟩
      · rintro H3 ⟨bs, l3, e3, s3⟩
        have eA := s3 _ _ e2
        have nAB : A1 ≠ B1 := ne_of_none e2 nB
        refine ⟨by show 4 ≤ sizeLine; decide, fun D1 nD => ?_⟩
        have s4 := same_new (o := .lst [.ref A1, .int 0, .ref B1, .int 0]) nD
        refine k _ D1 A1 B1 (s2.trans (s3.trans s4)) ⟨⟨as, bs, 0, upd_same, s4 _ _ eA, s4 _ _ e3⟩, nAB, Int.le_refl _⟩ ((s2.trans s3).free nD) nA
/-! ### _law_take -/
def sp_law_take : Sp := fun vs H Q _ => ∃ (D A B : Addr) (n size : Int), vs = [.ref D, .int size] ∧ Drw H D A B n ∧ n < 1000000 ∧ 1 ≤ size ∧ size < 1073741824 ∧
  ∀ (r : Int) (H' : Hp), 0 ≤ r → r < size → Drw H' D A B (n + 1) → Kept D A H H' → Q (.int r) H'
/-- within a draw -/
structure Mids (H : Hp) (D A B : Addr) (m : Int) (H1 : Hp) : Prop where
  ex : ∃ (as bs : List Int) (c : Int), H1 D = some (.lst [.ref A, .int c, .ref B, .int m]) ∧ H1 A = some (.lst (as.map V.int)) ∧ H1 B = some (.lst (bs.map V.int))
  kp : Kept D A H H1
theorem ok_law_take {f : Addr} {fd : FuncData} {dvs : List V} (F : Fn K "_law_take" s_law_take dvs f fd) (O_law_mixed : Own P w K mg base "_law_mixed" 1 ["seed", "k"] [] (sp_law_mixed)) (m_len : mg "len" = none) : FnOk P w K mg base CX0 2 f fd ["draws", "size"] (sp_law_take) := by
  refine Fn.okN F sc_law_take (fun vs H Q E h => ?_) (fun cdv A outer s H vs Q E hr h => ?_)
  · obtain ⟨_, _, _, _, _, rfl, _⟩ := h
    rfl
  · obtain ⟨D, A1, B, n, size, rfl, ⟨⟨as, bs, c, hD, hA, hB⟩, nAB, n0⟩, hn, z0, z1, k⟩ := h
    refine ⟨_, (pss_cons (ps_asg (pe_op op_add (pe_ix ix_list (pv 0) pe_int (fun _ _ => rfl)) pe_int) (pg_sub (pv 0) pe_int set_list))
      (pss_cut (ps_if (PW.pt (pw_and (pt_cmpR op_eq (pe_ix ix_list (pv 0) pe_int (fun _ _ => rfl)) pe_int (nomark _)) (pw_and1 (pt_cmpR (op_neD hr.units) (pe_ix ix_list (pv 0) pe_int (fun _ _ => rfl)) (pe_lst pa_nil) (nomark _)))))
          (pss_one (ps_asg (pe_bm PySem.F.plainAttrs_list PySem.F.slot_list_pop PySem.F.type_list_pop mt_popAt (pe_ix ix_list (pv 0) pe_int (fun _ _ => rfl)) (pa_cons pe_int pa_nil)) (pg_sub (pv 0) pe_int set_list)))
          pss_nil)
      (pss_cons (ps_if (pt_cmpR op_gt (pe_ix ix_list (pv 0) pe_int (fun _ _ => rfl)) pe_int (nomark _))
          (pss_cons (ps_set (i := 2) sc_law_take.nd rfl (.inl rfl) (pe_op op_mod (pe_ix ix_list (pv 0) pe_int (fun _ _ => rfl)) (pv 1)))
            (pss_cons (ps_asg (pe_op op_fdivN (pe_ix ix_list (pv 0) pe_int (fun _ _ => rfl)) (pv 1)) (pg_sub (pv 0) pe_int set_list))
            (pss_one (ps_ret (pv 2)))))
          pss_nil)
      (pss_cons (ps_set (i := 3) sc_law_take.nd rfl (.inl rfl) pe_int)
      (pss_cut (ps_if (pt_cmpR (op_neD hr.units) (pe_ix ix_list (pv 0) pe_int (fun _ _ => rfl)) (pe_lst pa_nil) (nomark _))
          (pss_one (ps_set (i := 3) sc_law_take.nd rfl (.inl rfl) (pe_ix ix_list (pe_ix ix_list (pv 0) pe_int (fun _ _ => rfl)) (pe_op op_mod (pe_ix ix_list (pv 0) pe_int (fun _ _ => rfl)) (pe_callB call_len_seq (by rfl) m_len PySem.boot_len (pa_cons (pe_ix ix_list (pv 0) pe_int (fun _ _ => rfl)) pa_nil))) (fun _ _ => rfl))))
          pss_nil)
      (pss_cons (ps_set (i := 2) sc_law_take.nd rfl (.inl rfl) pe_int)
      (pss_cons (ps_set (i := 4) sc_law_take.nd rfl (.inl rfl) pe_int)
      (pss_cons (ps_while PassesOwn.never (pt_cmpR op_lt (pv 4) (pv 1) (nomark _))
          (pss_cons (ps_set (i := 2) sc_law_take.nd rfl (.inl rfl) (pe_op op_add (pe_op op_mul (pv 2) pe_int) (pe_own O_law_mixed (hr.mono (by decide)) (by rfl) (pa_cons (pv 3) (pa_cons (pe_op op_add (pe_ix ix_list (pv 0) pe_int (fun _ _ => rfl)) (pe_op op_mul pe_int (pe_op op_mod (pv 2) pe_int))) pa_nil)))))
            (pss_one (ps_set (i := 4) sc_law_take.nd rfl (.inl rfl) (pe_op op_mul (pv 4) pe_int)))))
      (pss_one (ps_ret (pe_op op_mod (pv 2) (pv 1)))))))))))), ?_⟩
    have nDA : D ≠ A1 := fun e => by
      rw [e, hA] at hD
      cases as <;> cases hD
    have nDB : D ≠ B := fun e => by
      rw [e, hB] at hD
      cases bs <;> cases hD
    -- one more draw
    refine ⟨.ref D, rfl, D, _, 3, .int n, rfl, rfl, SqL.of hD, atI_nat (j := 3) rfl, n, 1, rfl, rfl, .ref D, rfl, D, _, 3, 3, rfl, rfl, hD, rfl, ?_⟩
    have hD1 : (upd H D (.lst ([V.ref A1, .int c, .ref B, .int n].set 3 (.int (n + 1))))) D = some (.lst [V.ref A1, .int c, .ref B, .int (n + 1)]) := upd_same
    have hA1 : (upd H D (.lst ([V.ref A1, .int c, .ref B, .int n].set 3 (.int (n + 1))))) A1 = some (.lst (as.map V.int)) := by rw [upd_ne nDA.symm]; exact hA
    have hB1 : (upd H D (.lst ([V.ref A1, .int c, .ref B, .int n].set 3 (.int (n + 1))))) B = some (.lst (bs.map V.int)) := by rw [upd_ne nDB.symm]; exact hB
    have k1 : Kept D A1 H (upd H D (.lst ([V.ref A1, .int c, .ref B, .int n].set 3 (.int (n + 1))))) := fun b o e n1 _ => by rw [upd_ne n1]; exact e
    generalize upd H D (.lst ([V.ref A1, .int c, .ref B, .int n].set 3 (.int (n + 1)))) = H1 at hD1 hA1 hB1 k1
    clear hD hA hB
    -- the next of the great cells
    refine ⟨fun σ H2 => σ = [some (.ref D), some (.int size), none, none, none] ∧ Mids H D A1 B (n + 1) H2, ?_, ?_⟩
    · refine ⟨.ref D, rfl, D, _, 1, .int c, rfl, rfl, SqL.of hD1, atI_nat (j := 1) rfl, rfl, _, rfl, ?_⟩
      refine ite2 (fun _ => ?_) (fun _ => ?_)
      · refine ⟨.ref D, rfl, D, _, 0, .ref A1, rfl, rfl, SqL.of hD1, atI_nat (j := 0) rfl, by decide, fun N1 nN => ?_⟩
        have s2 := same_new (o := .lst []) nN
        refine ⟨_, _, .lst (SqL.of (s2 _ _ hA1)) (dp_ints as), .lst (SqL.of upd_same) .nil, shaped_ints as, shaped_ints [], _, rfl, ?_⟩
        rw [eqv_nil]
        cases as with
        | nil => exact iteF ⟨rfl, ⟨[], bs, c, s2 _ _ hD1, s2 _ _ hA1, s2 _ _ hB1⟩, fun b o e n1 n2 => s2 _ _ (k1 b o e n1 n2)⟩
        | cons a r =>
          refine iteT ?_
          refine ⟨.ref D, rfl, D, _, 0, .ref A1, rfl, rfl, SqL.of (s2 _ _ hD1), atI_nat (j := 0) rfl, .inl ⟨rfl, _, SqL.of (s2 _ _ hA1)⟩, A1, _, 0, 0, .int a, rfl, rfl, s2 _ _ hA1, by decide, by decide, ?_, rfl, ?_⟩
          · refine (ixN_seq (j := 0) ?_).1
            unfold ixN
            rw [if_pos (by decide), if_pos (by rw [List.length_map, List.length_cons]; omega)]
            rfl
          · refine ⟨.ref D, rfl, D, _, 1, 1, rfl, rfl, by rw [upd_ne nDA]; exact s2 _ _ hD1, rfl, rfl, ⟨r, bs, a, upd_same, ?_, ?_⟩, fun b o e n1 n2 => ?_⟩
            · rw [upd_ne nDA.symm, upd_same]
              rfl
            · rw [upd_ne nDB.symm, upd_ne nAB.symm]
              exact s2 _ _ hB1
            · rw [upd_ne n1, upd_ne n2]
              exact s2 _ _ (k1 b o e n1 n2)
      · exact ⟨rfl, ⟨as, bs, c, hD1, hA1, hB1⟩, k1⟩
    rintro σ2 H2 ⟨rfl, ⟨as2, bs2, c2, hD2, hA2, hB2⟩, k2⟩
    clear hD1 hA1 hB1 k1
    -- digits of a great cell
    refine ⟨.ref D, rfl, D, _, 1, .int c2, rfl, rfl, SqL.of hD2, atI_nat (j := 1) rfl, _, _, rfl, rfl, _, rfl, ite2 (fun _ => ?_) (fun _ => ?_)⟩
    · refine ⟨.ref D, rfl, D, _, 1, .int c2, rfl, rfl, SqL.of hD2, atI_nat (j := 1) rfl, _, rfl, _, _, rfl, rfl, (by show (0 : Int) < size; omega), ?_⟩
      refine ⟨.ref D, rfl, D, _, 1, .int c2, rfl, rfl, SqL.of hD2, atI_nat (j := 1) rfl, _, rfl, c2, size, rfl, rfl, ⟨by omega, by omega⟩, .ref D, rfl, D, _, 1, 1, rfl, rfl, hD2, rfl, ?_⟩
      refine ⟨_, rfl, ?_⟩
      refine k _ _ (Int.emod_nonneg _ (by omega)) (Int.emod_lt_of_pos _ (by omega)) ⟨⟨as2, bs2, c2.fdiv size, upd_same, ?_, ?_⟩, nAB, by omega⟩ (fun b o e n1 n2 => ?_)
      · rw [upd_ne nDA.symm]
        exact hA2
      · rw [upd_ne nDB.symm]
        exact hB2
      · rw [upd_ne n1]
        exact k2 b o e n1 n2
    -- a seed
    refine ⟨fun σ H3 => ∃ sd : Int, σ = [some (.ref D), some (.int size), none, some (.int sd), none] ∧ Mids H D A1 B (n + 1) H3, ?_, ?_⟩
    · refine ⟨.ref D, rfl, D, _, 2, .ref B, rfl, rfl, SqL.of hD2, atI_nat (j := 2) rfl, by decide, fun N1 nN => ?_⟩
      have s3 := same_new (o := .lst []) nN
      refine ⟨_, _, .lst (SqL.of (s3 _ _ hB2)) (dp_ints bs2), .lst (SqL.of upd_same) .nil, shaped_ints bs2, shaped_ints [], _, rfl, ?_⟩
      rw [eqv_nil]
      have M3 : Mids H D A1 B (n + 1) (upd H2 N1 (.lst [])) := ⟨⟨as2, bs2, c2, s3 _ _ hD2, s3 _ _ hA2, s3 _ _ hB2⟩, fun b o e n1 n2 => s3 _ _ (k2 b o e n1 n2)⟩
      cases bs2 with
      | nil => exact iteF ⟨17, rfl, M3⟩
      | cons b r =>
        refine iteT ?_
        have hp : (0 : Int) < (((b :: r).map V.int).length : Int) := by
          rw [List.length_map, List.length_cons]
          omega
        have m0 := Int.emod_nonneg (n + 1) (show (((b :: r).map V.int).length : Int) ≠ 0 by omega)
        have m1 := Int.emod_lt_of_pos (n + 1) hp
        obtain ⟨j, hj⟩ : ∃ j : Nat, (n + 1) % (((b :: r).map V.int).length : Int) = (j : Int) := ⟨_, (Int.toNat_of_nonneg m0).symm⟩
        have jl : j < (b :: r).length := by
          rw [hj, List.length_map] at m1
          omega
        refine ⟨.ref D, rfl, D, _, 2, .ref B, rfl, rfl, SqL.of (s3 _ _ hD2), atI_nat (j := 2) rfl, .ref D, rfl, D, _, 3, .int (n + 1), rfl, rfl, SqL.of (s3 _ _ hD2), atI_nat (j := 3) rfl, .ref D, rfl, D, _, 2, .ref B, rfl, rfl, SqL.of (s3 _ _ hD2), atI_nat (j := 2) rfl, B, _, rfl, .inl (SqL.of (s3 _ _ hB2)), _, _, rfl, rfl, hp, ?_⟩
        refine ⟨B, _, _, .int ((b :: r)[j]'jl), rfl, rfl, SqL.of (s3 _ _ hB2), ?_, ⟨_, rfl, M3⟩⟩
        rw [hj]
        refine atI_nat ?_
        rw [List.getElem?_map, List.getElem?_eq_getElem jl]
        rfl
    rintro σ3 H3 ⟨sd, rfl, M3⟩
    obtain ⟨⟨as3, bs3, c3, hD3, hA3, hB3⟩, k3⟩ := id M3
    -- the loop
    refine while_by (fun σ H4 => ∃ fd rc : Int, σ = [some (.ref D), some (.int size), some (.int fd), some (.int sd), some (.int rc)] ∧ H4 = H3 ∧ 1 ≤ rc) (fun σ _ => match σ with | [_, _, _, _, some (.int rc)] => (size - rc).toNat | _ => 0) ⟨0, 1, rfl, rfl, by decide⟩ ?_ ?_
    · rintro σ H4 ⟨fd, rc, rfl, rfl, r1⟩
      refine ⟨_, rfl, _, rfl, _, _, rfl, rfl, _, rfl, ite2 (fun lt => ?_) (fun _ => ?_)⟩
      · have lt' : rc < size := of_decide_eq_true lt
        have q0 : 0 ≤ fd % 97 := Int.emod_nonneg _ (by decide)
        have q1 : fd % 97 < 97 := Int.emod_lt_of_pos _ (by decide)
        refine ⟨_, rfl, _, _, rfl, rfl, .inr ⟨by decide, by decide⟩, _, rfl, .ref D, rfl, D, _, 3, .int (n + 1), rfl, rfl, SqL.of hD3, atI_nat (j := 3) rfl, _, rfl, _, _, rfl, rfl, (by show (0 : Int) < 97; decide), _, _, rfl, rfl, .inl ⟨by decide, by decide⟩, _, _, rfl, rfl, _, _, rfl, ?_, ?_, fun r => ?_⟩
        · generalize fd % 97 = q at q0 q1
          omega
        · generalize fd % 97 = q at q0 q1
          omega
        · refine ⟨_, _, rfl, rfl, _, rfl, _, _, rfl, rfl, .inr ⟨by decide, by decide⟩, ⟨_, _, rfl, rfl, by omega⟩, ?_⟩
          show (size - rc * 1000000007).toNat < (size - rc).toNat
          omega
      · refine ⟨_, rfl, _, rfl, _, _, rfl, rfl, (by show (0 : Int) < size; omega), ?_⟩
        exact k _ _ (Int.emod_nonneg _ (by omega)) (Int.emod_lt_of_pos _ (by omega)) ⟨⟨as3, bs3, c3, hD3, hA3, hB3⟩, nAB, by omega⟩ k3
    · rintro σ H4 Q1 Q2 i ⟨v, e1, w, e2, i1, j1, e3, e4, b, e5, q⟩
      exact ⟨v, e1, w, e2, i1, j1, e3, e4, b, e5, i _ _ q⟩

/-! ### _law_pick, of texts too -/
/-- a list or a tuple that no draw touches -/
def SeqO (H : Hp) (p : Addr) (xs : List V) : Prop := H p = some (.lst xs) ∨ H p = some (.tup xs)
theorem SeqO.same {H H' : Hp} {p : Addr} {xs : List V} (h : SeqO H p xs) (k : Same H H') : SeqO H' p xs := h.elim (fun e => .inl (k _ _ e)) (fun e => .inr (k _ _ e))
theorem SeqO.kept {H H' : Hp} {p D A : Addr} {xs : List V} (h : SeqO H p xs) (k : Kept D A H H') (n1 : p ≠ D) (n2 : p ≠ A) : SeqO H' p xs := h.elim (fun e => .inl (k _ _ e n1 n2)) (fun e => .inr (k _ _ e n1 n2))
/-- what is picked from -/
def Th (H : Hp) (D A : Addr) (th : V) (xs : List V) : Prop := (∃ p, th = .ref p ∧ SeqO H p xs ∧ p ≠ D ∧ p ≠ A) ∨ ∃ z : Str, th = .str z ∧ z.length ≤ 10000 ∧ xs = (tl z).map fun c => V.str ⟨#[c]⟩
def sp_law_pick : Sp := fun vs H Q _ => ∃ (D A B : Addr) (th : V) (n : Int) (xs : List V), vs = [.ref D, th] ∧ Drw H D A B n ∧ n < 1000000 ∧ Th H D A th xs ∧ 1 ≤ xs.length ∧ xs.length < 1000000 ∧
  ∀ (i : Nat) (v : V) (H' : Hp), xs[i]? = some v → Drw H' D A B (n + 1) → Kept D A H H' → Q v H'
theorem ok_law_pick {f : Addr} {fd : FuncData} {dvs : List V} (F : Fn K "_law_pick" s_law_pick dvs f fd) (O_law_take : Own P w K mg base "_law_take" 2 ["draws", "size"] [] (sp_law_take)) (m_len : mg "len" = none) : FnOk P w K mg base CX0 3 f fd ["draws", "things"] (sp_law_pick) := by
  refine Fn.okN F sc_law_pick (fun vs H Q E h => ?_) (fun cdv A outer s H vs Q E hr h => ?_)
  · obtain ⟨_, _, _, _, _, _, rfl, _⟩ := h
    rfl
  · obtain ⟨D, A1, B, th, n, xs, rfl, dr, hn, hp, l0, l1, k⟩ := h
    refine ⟨_, (pss_one (ps_ret (pe_ix ix_seq (pv 1) (pe_own O_law_take (hr.mono (by decide)) (by rfl) (pa_cons (pv 0) (pa_cons (pe_callB (call_len_seq.or call_len_str) (by rfl) m_len PySem.boot_len (pa_cons (pv 1) pa_nil)) pa_nil))) (fun _ _ => rfl)))), ?_⟩
    rcases hp with ⟨p, rfl, hp, pD, pA⟩ | ⟨z, rfl, hz, rfl⟩
    · refine ⟨.ref p, rfl, .ref D, rfl, .ref p, rfl, .inl ⟨p, xs, rfl, hp.elim (fun e => .inl (SqL.of e)) (fun e => .inr (SqT.of e)), D, A1, B, n, (xs.length : Int), rfl, dr, hn, by omega, by omega, fun r H' r0 r1 dr' kp => ?_⟩⟩
      obtain ⟨j, rfl⟩ : ∃ j : Nat, r = (j : Int) := ⟨_, (Int.toNat_of_nonneg r0).symm⟩
      have jl : j < xs.length := by omega
      have g : xs[j]? = some xs[j] := List.getElem?_eq_getElem jl
      rcases hp.kept kp pD pA with e | e
      · exact .inl ⟨p, xs, (j : Int), xs[j], rfl, rfl, SqL.of e, atI_nat g, k j _ _ g dr' kp⟩
      · exact .inr (.inl ⟨p, xs, (j : Int), xs[j], rfl, rfl, SqT.of e, atI_nat g, k j _ _ g dr' kp⟩)
    · have lz : (tl z).length = z.length := (len_tl z).symm
      rw [List.length_map, lz] at l0 l1
      refine ⟨.str z, rfl, .ref D, rfl, .str z, rfl, .inr ⟨z, rfl, line_of (by omega), D, A1, B, n, (z.length : Int), rfl, dr, hn, by omega, by omega, fun r H' r0 r1 dr' kp => ?_⟩⟩
      obtain ⟨j, rfl⟩ : ∃ j : Nat, r = (j : Int) := ⟨_, (Int.toNat_of_nonneg r0).symm⟩
      have jl : j < (tl z).length := by omega
      have g : (tl z)[j]? = some (tl z)[j] := List.getElem?_eq_getElem jl
      exact .inr (.inr ⟨z, (j : Int), (tl z)[j], rfl, rfl, line_of (by omega), atI_nat g, k j _ _ (by rw [List.getElem?_map, g]; rfl) dr' kp⟩)
end

/-! ### the mathematics of the stages, over lists of signs -/
/-- nothing but blanks -/
def isBlank (l : List Nat) : Bool := l.all fun c => c == 32 || c == 9
def MK : List Nat := [60, 66, 76, 65, 78, 75, 76, 73, 78, 69, 62]
def isMark (l : List Nat) : Bool := pre MK l && isBlank (l.drop 11)
def marksOf (w : List Nat) : List Nat := joinL [10] ((spl [10] 0 [] w).map fun l => if isMark l then [] else l)
def blanksOf (g : List Nat) : List Nat := joinL [10] ((spl [10] 0 [] g).map fun l => if isBlank l then [] else l)
def wordsOf (t : List Nat) : List Nat := joinL [32] ((spl [32] 0 [] (t.map fun c => if c == 9 || c == 10 then 32 else c)).filter fun w => !w.isEmpty)
theorem emptyEq (l : List Nat) : l.isEmpty = (l.length == 0) := by cases l <;> rfl

theorem joinL_len (S : List Nat) : ∀ {ps : List (List Nat)}, ps ≠ [] → (joinL S ps).length + S.length = (ps.map (·.length)).sum + ps.length * S.length
  | [], h => absurd rfl h
  | [p], _ => by
    show p.length + S.length = p.length + 0 + (0 + 1) * S.length
    omega
  | p :: q :: r, _ => by
    have ih := joinL_len S (ps := q :: r) (by simp)
    show (p ++ (S ++ joinL S (q :: r))).length + S.length = p.length + ((q :: r).map (·.length)).sum + ((q :: r).length + 1) * S.length
    rw [List.length_append, List.length_append, Nat.succ_mul]
    omega
theorem spl_ne (S : List Nat) : ∀ (k : Nat) (acc l : List Nat), spl S k acc l ≠ []
  | k, acc, [] => by rw [spl_nil]; simp
  | 0, acc, c :: r => by
    cases h : pre S (c :: r) with
    | true => rw [spl_hit h]; simp
    | false => rw [spl_miss h]; exact spl_ne S 0 _ r
  | k + 1, acc, _ :: r => spl_ne S k acc r
theorem small_kind {y : List Nat} (h : y.all (· < 256) = true) (x : Str) : ¬ Builtin.Str.strKind x < Builtin.Str.strKind ⟨y.toArray⟩ := kind_ok (by simpa using h)
theorem splitOf (x : Str) {y : List Nat} (hy : y ≠ []) (h : y.all (· < 256) = true) : (Txt.split x ⟨y.toArray⟩).map tl = spl y 0 [] (tl x) := split_spl x ⟨y.toArray⟩ hy (small_kind h x)
theorem joinL_spl (l : List Nat) {y : List Nat} (hy : y ≠ []) (h : y.all (· < 256) = true) : joinL y (spl y 0 [] l) = l := by
  have e := StrLaws.join_split (⟨l.toArray⟩ : Str) ⟨y.toArray⟩
  have e2 := congrArg tl e
  rw [tl_join, splitOf _ hy h] at e2
  exact e2
/-- of the parts: how long they are together, and how many -/
theorem spl_sizes (l : List Nat) {y : List Nat} (hy : y ≠ []) (h : y.all (· < 256) = true) : ((spl y 0 [] l).map (·.length)).sum ≤ l.length ∧ (spl y 0 [] l).length ≤ l.length + 1 := by
  have e := joinL_len y (spl_ne y 0 [] l)
  rw [joinL_spl l hy h] at e
  have hp : 1 ≤ y.length := List.length_pos_iff.mpr hy
  have hn : 1 ≤ (spl y 0 [] l).length := List.length_pos_iff.mpr (spl_ne y 0 [] l)
  generalize (spl y 0 [] l).length = n at e hn
  generalize ((spl y 0 [] l).map (·.length)).sum = s at e
  obtain ⟨m, rfl⟩ : ∃ m, n = m + 1 := ⟨n - 1, by omega⟩
  rw [Nat.succ_mul] at e
  have hm : m ≤ m * y.length := Nat.le_mul_of_pos_right m hp
  omega
theorem sum_map_le {α : Type} (f g : α → Nat) : ∀ (l : List α), (∀ x ∈ l, f x ≤ g x) → (l.map f).sum ≤ (l.map g).sum
  | [], _ => Nat.le_refl _
  | x :: r, h => by
    have h1 := h x (List.mem_cons_self ..)
    have h2 := sum_map_le f g r fun y hy => h y (List.mem_cons_of_mem _ hy)
    rw [List.map_cons, List.map_cons, List.sum_cons, List.sum_cons]
    omega
theorem map_lines_len (f : List Nat → List Nat) (hf : ∀ l, (f l).length ≤ l.length) (l : List Nat) {y : List Nat} (hy : y ≠ []) (h : y.all (· < 256) = true) : (joinL y ((spl y 0 [] l).map f)).length ≤ l.length := by
  have e := joinL_len y (spl_ne y 0 [] l)
  rw [joinL_spl l hy h] at e
  have e2 := joinL_len y (ps := (spl y 0 [] l).map f) (by simpa using spl_ne y 0 [] l)
  rw [List.length_map, List.map_map] at e2
  have e3 := sum_map_le (fun x => (f x).length) (fun x => x.length) (spl y 0 [] l) fun x _ => hf x
  have e4 : ((spl y 0 [] l).map ((fun x => x.length) ∘ f)).sum = ((spl y 0 [] l).map fun x => (f x).length).sum := rfl
  omega
theorem marks_len (w : List Nat) : (marksOf w).length ≤ w.length := map_lines_len _ (fun l => by split <;> simp) w (by simp) (by decide)
theorem blanks_len (w : List Nat) : (blanksOf w).length ≤ w.length := map_lines_len _ (fun l => by split <;> simp) w (by simp) (by decide)
theorem filter_sum (p : List Nat → Bool) : ∀ ps : List (List Nat), ((ps.filter p).map (·.length)).sum ≤ (ps.map (·.length)).sum
  | [] => Nat.le_refl _
  | x :: r => by
    have ih := filter_sum p r
    rw [List.filter_cons]
    split
    · rw [List.map_cons, List.map_cons, List.sum_cons, List.sum_cons]
      omega
    · rw [List.map_cons, List.sum_cons]
      omega
theorem words_len (t : List Nat) : (wordsOf t).length ≤ t.length := by
  unfold wordsOf
  generalize hu : (t.map fun c => if c == 9 || c == 10 then 32 else c) = u
  have lu : u.length = t.length := by rw [← hu, List.length_map]
  have e := joinL_len [32] (spl_ne [32] 0 [] u)
  rw [joinL_spl u (by simp) (by decide)] at e
  have l1 : ([32] : List Nat).length = 1 := rfl
  generalize hq : (spl [32] 0 [] u).filter (fun w => !w.isEmpty) = q
  have hs : (q.map (·.length)).sum ≤ ((spl [32] 0 [] u).map (·.length)).sum := by rw [← hq]; exact filter_sum _ _
  have hl : q.length ≤ (spl [32] 0 [] u).length := by rw [← hq]; exact List.length_filter_le _ _
  cases q with
  | nil => exact Nat.zero_le _
  | cons a r =>
    have e2 := joinL_len [32] (ps := a :: r) (by simp)
    rw [l1] at e e2
    omega

/-! ### stripping leaves nothing just of a blank text -/
theorem strip_blank (x : Str) (goes : Nat → Bool) : ((Txt.stripBy goes true true x).length = 0) ↔ (tl x).all goes = true := by
  rw [stripBy_eq]
  obtain ⟨h1, h2, h3⟩ := lo_facts goes x
  obtain ⟨g1, g2, g3, g4⟩ := hi_facts goes x (stripLo goes true x) h1
  have hl : (Builtin.Str.strSub x (stripLo goes true x) (stripHi goes true x (stripLo goes true x))).length = stripHi goes true x (stripLo goes true x) - stripLo goes true x := by
    rw [len_tl, tl_strSub, List.length_take, List.length_drop, ← len_tl]
    omega
  rw [hl]
  have get : ∀ k, k < x.length → x.cps.getD k 0 ∈ tl x := fun k hk => by
    have hk' : k < x.cps.size := hk
    simp [tl, Array.getD, hk']
  constructor
  · intro h
    rw [List.all_eq_true]
    intro c hc
    obtain ⟨k, hk, e⟩ := List.getElem_of_mem hc
    have hkx : k < x.length := by rw [len_tl]; exact hk
    have e2 : x.cps.getD k 0 = c := by
      have hk' : k < x.cps.size := hkx
      rw [← e]
      simp [tl, Array.getD, hk']
    rw [← e2]
    by_cases hk2 : k < stripLo goes true x
    · exact h2 k hk2
    · exact g3 k (by omega) hkx
  · intro h
    rw [List.all_eq_true] at h
    rcases h3 with e | e
    · omega
    · by_cases hlt : stripLo goes true x < x.length
      · rw [h _ (get _ hlt)] at e
        cases e
      · omega
theorem blank_strip (x : Str) : ((Txt.stripChars x ⟨#[32, 9]⟩).length = 0) ↔ isBlank (tl x) = true := by
  unfold Txt.stripChars
  rw [strip_blank]
  unfold isBlank
  have e : (fun c => (#[32, 9] : Array Nat).contains c) = fun c => (c == 32 || c == 9) := by
    funext c
    rw [Bool.eq_iff_iff, Array.contains_iff_mem]
    simp
  show (tl x).all (fun c => (#[32, 9] : Array Nat).contains c) = true ↔ _
  rw [e]
theorem starts_pre (x : Str) {y : List Nat} (hy : y ≠ []) : Txt.startswith x ⟨y.toArray⟩ = pre y (tl x) := by
  unfold Txt.startswith
  rw [Nat.zero_add]
  have h := at_iff (x := x) (y := ⟨y.toArray⟩) hy 0
  rw [List.drop_zero] at h
  unfold StrLaws.At at h
  rw [Nat.zero_add] at h
  rw [Bool.eq_iff_iff, Bool.and_eq_true, decide_eq_true_eq]
  exact h

/-! ### slices of texts -/
theorem cutS_from (z : Str) (k : Nat) : tl (cutS z (some (k : Int)) none) = (tl z).drop k := by
  show (z.cps.toList.drop (HT.sIx z.length 0 (some (k : Int)))).take (HT.sIx z.length z.length none - HT.sIx z.length 0 (some (k : Int))) = z.cps.toList.drop k
  have hl : z.cps.toList.length = z.length := (len_tl z).symm
  rw [HT.sIx_nat, HT.sIx_none]
  by_cases h : k ≤ z.length
  · rw [Nat.min_eq_left h]
    exact List.take_of_length_le (by rw [List.length_drop]; omega)
  · rw [Nat.min_eq_right (by omega), List.drop_of_length_le (by omega), List.drop_of_length_le (by omega)]
    simp
theorem cutS_to (z : Str) (k : Nat) : tl (cutS z none (some (k : Int))) = (tl z).take k := by
  show (z.cps.toList.drop (HT.sIx z.length 0 none)).take (HT.sIx z.length z.length (some (k : Int)) - HT.sIx z.length 0 none) = z.cps.toList.take k
  have hl : z.cps.toList.length = z.length := (len_tl z).symm
  rw [HT.sIx_nat, HT.sIx_none, List.drop_zero, Nat.sub_zero]
  by_cases h : k ≤ z.length
  · rw [Nat.min_eq_left h]
  · rw [Nat.min_eq_right (by omega), List.take_of_length_le (by omega), List.take_of_length_le (by omega)]
theorem cutS_mid (z : Str) (a b : Nat) (h : a ≤ z.length) : tl (cutS z (some (a : Int)) (some (b : Int))) = ((tl z).drop a).take (b - a) := by
  show (z.cps.toList.drop (HT.sIx z.length 0 (some (a : Int)))).take (HT.sIx z.length z.length (some (b : Int)) - HT.sIx z.length 0 (some (a : Int))) = (z.cps.toList.drop a).take (b - a)
  have hl : z.cps.toList.length = z.length := (len_tl z).symm
  rw [HT.sIx_nat, HT.sIx_nat, Nat.min_eq_left h]
  by_cases hb : b ≤ z.length
  · rw [Nat.min_eq_left hb]
  · rw [Nat.min_eq_right (by omega), List.take_of_length_le (by rw [List.length_drop]; omega), List.take_of_length_le (by rw [List.length_drop]; omega)]
theorem nl_eq : ("\n" : Str) = ⟨[10].toArray⟩ := ext_tl (by decide +kernel)
theorem sp_eq : (" " : Str) = ⟨[32].toArray⟩ := ext_tl (by decide +kernel)
theorem tab_eq : ("\t" : Str) = ⟨[9].toArray⟩ := ext_tl (by decide +kernel)
theorem str_at {ys : List Str} {i : Nat} {x : V} (h : (ys.map V.str)[i]? = some x) : ∃ z, x = V.str z ∧ ys[i]? = some z := by
  rw [List.getElem?_map] at h
  cases e : ys[i]? with
  | none =>
    rw [e] at h
    cases h
  | some z =>
    rw [e] at h
    exact ⟨z, (Option.some.inj h).symm, rfl⟩

/-! ### comprehensions over the signs of a text -/
theorem lc_str {x : Str} {g : TG} {tt : TT} {te : TE} {vs : List Nat} {σ : L2.St} {H1 : Hp} {D : Addr} {Qd : Hp → Prop} (Pv : Nat → Hp → Prop) (h0 : Pv 0 (upd H1 D (.lst [])))
    (hs : ∀ i c H, (tl x)[i]? = some c → Pv i H → g (.str ⟨#[c]⟩) (wipe σ vs) H fun σ2 H2 => wipe σ2 vs = wipe σ vs ∧ tt σ2 H2 fun b H3 =>
      if b = true then te σ2 H3 fun y H4 => ∃ acc, H4 D = some (.lst acc) ∧ acc.length < sizeLine ∧ Pv (i + 1) (upd H4 D (.lst (acc ++ [y]))) else Pv (i + 1) H3) (hd : ∀ H, Pv (tl x).length H → Qd H) :
    ∃ W : Nat → Nat → Hp → Prop, (∃ m, W 0 m (upd H1 D (.lst []))) ∧ ∀ i m H, W i m H →
      ((Its x).stop i H ∧ Qd H) ∨ ((Its x).go i H ∧ ∃ Nx : Hp → Prop, (∀ H', Nx H' → ∃ m', m' < m ∧ W (i + 1) m' H') ∧ ∀ y H', (Its x).yld i H y H' → g y (wipe σ vs) H' fun σ2 H2 => wipe σ2 vs = wipe σ vs ∧ tt σ2 H2 fun b H3 =>
        if b = true then te σ2 H3 fun y H4 => ∃ acc, H4 D = some (.lst acc) ∧ acc.length < sizeLine ∧ Nx (upd H4 D (.lst (acc ++ [y]))) else Nx H3) := by
  have sz : x.cps.size = (tl x).length := by simp [tl]
  refine ⟨fun i m H => m = (tl x).length - i ∧ i ≤ (tl x).length ∧ Pv i H, ⟨(tl x).length, by simp, Nat.zero_le _, h0⟩, ?_⟩
  rintro i m H ⟨rfl, hi, p⟩
  by_cases hlt : i < (tl x).length
  · refine .inr ⟨by show i < x.cps.size; omega, Pv (i + 1), fun H' p' => ⟨(tl x).length - (i + 1), by omega, rfl, hlt, p'⟩, fun y H' z => ?_⟩
    obtain ⟨e, c, hc, ey⟩ := z
    subst e ey
    exact hs i c _ (by rw [← hc]; simp [tl]) p
  · have e : i = (tl x).length := by omega
    subst e
    exact .inl ⟨by show x.cps.size ≤ (tl x).length; omega, hd H p⟩

/-! ### texts levelled: the mathematics -/
theorem exp_line {n : Nat} : ∀ (l r : List Nat) (col : Nat), (∀ c ∈ l, c ≠ 10 ∧ c ≠ 13) → Mun.expT n col (l ++ 10 :: r) = Mun.expT n col l ++ 10 :: Mun.expT n 0 r
  | [], r, col, _ => by
    rw [List.nil_append, expc (by decide), if_pos (.inl rfl)]
    rfl
  | c :: l, r, col, h => by
    have h1 := h c (List.mem_cons_self ..)
    have ih := fun k => exp_line (n := n) l r k fun d m => h d (List.mem_cons_of_mem _ m)
    rw [List.cons_append]
    by_cases e : c = 9
    · rw [e, exp9, exp9, ih, List.append_assoc]
    · rw [expc e, expc e, if_neg (fun z => z.elim h1.1 h1.2), ih]
      rfl
theorem exp_join {n : Nat} : ∀ ls : List (List Nat), (∀ l ∈ ls, ∀ c ∈ l, c ≠ 10 ∧ c ≠ 13) → Mun.expT n 0 (joinL [10] ls) = joinL [10] (ls.map (Mun.expT n 0))
  | [], _ => rfl
  | [l], _ => rfl
  | l :: m :: r, h => by
    have ih := exp_join (n := n) (m :: r) fun d z => h d (List.mem_cons_of_mem _ z)
    show Mun.expT n 0 (l ++ ([10] ++ joinL [10] (m :: r))) = Mun.expT n 0 l ++ ([10] ++ joinL [10] ((m :: r).map (Mun.expT n 0)))
    rw [← ih]
    exact exp_line l _ 0 (h l (List.mem_cons_self ..))
/-- a line widened, sign by sign -/
def stW (f : List Nat) (c : Nat) : List Nat := if c = 9 then f ++ List.replicate (8 - f.length % 8) 32 else f ++ [c]
theorem stW_all : ∀ (l f : List Nat), (∀ c ∈ l, c ≠ 10 ∧ c ≠ 13) → l.foldl stW f = f ++ Mun.expT 8 f.length l
  | [], f, _ => by
    show f = f ++ []
    rw [List.append_nil]
  | c :: l, f, h => by
    have h1 := h c (List.mem_cons_self ..)
    rw [List.foldl_cons, stW_all l _ fun d m => h d (List.mem_cons_of_mem _ m)]
    unfold stW
    by_cases e : c = 9
    · rw [if_pos e, e, exp9, List.append_assoc, List.length_append, List.length_replicate]
    · rw [if_neg e, expc e, if_neg (fun z => z.elim h1.1 h1.2), List.append_assoc, List.length_append]
      rfl
def lead (l : List Nat) : Nat := (l.takeWhile fun c => c == 32).length
theorem lead_le (l : List Nat) : lead l ≤ l.length := (List.takeWhile_sublist _).length_le
theorem lead_drop : ∀ (l : List Nat) (k : Nat), k ≤ lead l → lead (l.drop k) = lead l - k
  | [], k, h => by
    have e : k = 0 := Nat.le_zero.mp h
    subst e
    rfl
  | c :: l, 0, h => rfl
  | c :: l, k + 1, h => by
    unfold lead at h ⊢
    rw [List.takeWhile_cons] at h ⊢
    cases e : (c == 32) with
    | false =>
      rw [e] at h
      exact absurd h (Nat.not_succ_le_zero _)
    | true =>
      rw [e] at h
      have h' : k ≤ lead l := Nat.le_of_succ_le_succ h
      have ih := lead_drop l k h'
      rw [List.drop_succ_cons]
      show lead (l.drop k) = lead l + 1 - (k + 1)
      rw [ih]
      omega
theorem drop_nil_of {l : List Nat} {k : Nat} (h : k = 0) : l.drop k = l := by rw [h, List.drop_zero]
def spaces (l : List Nat) : Bool := l.all (· == 32)
/-- the least of some numbers, 0 of none -/
def leastN : List Nat → Nat
  | [] => 0
  | a :: r => r.foldl Nat.min a
theorem foldl_min : ∀ (r : List Nat) (a : Nat), r.foldl Nat.min a ≤ a ∧ (∀ y ∈ r, r.foldl Nat.min a ≤ y) ∧ (r.foldl Nat.min a = a ∨ r.foldl Nat.min a ∈ r)
  | [], a => ⟨Nat.le_refl _, fun _ h => (by cases h), .inl rfl⟩
  | b :: r, a => by
    have ih := foldl_min r (Nat.min a b)
    have m1 : Nat.min a b ≤ a := Nat.min_le_left ..
    have m2 : Nat.min a b ≤ b := Nat.min_le_right ..
    rw [List.foldl_cons]
    refine ⟨by omega, fun y h => ?_, ?_⟩
    · rcases List.mem_cons.mp h with rfl | h
      · omega
      · exact ih.2.1 y h
    · rcases ih.2.2 with e | e
      · rw [e]
        rcases Nat.le_total a b with z | z
        · exact .inl (Nat.min_eq_left z)
        · exact .inr (by rw [show Nat.min a b = b from Nat.min_eq_right z]; exact List.mem_cons_self ..)
      · exact .inr (List.mem_cons_of_mem _ e)
theorem leastN_spec {ns : List Nat} (h : ns ≠ []) : leastN ns ∈ ns ∧ ∀ y ∈ ns, leastN ns ≤ y := by
  cases ns with
  | nil => exact absurd rfl h
  | cons a r =>
    have g := foldl_min r a
    refine ⟨?_, fun y hy => ?_⟩
    · rcases g.2.2 with e | e
      · show r.foldl Nat.min a ∈ _
        rw [e]
        exact List.mem_cons_self ..
      · exact List.mem_cons_of_mem _ e
    · rcases List.mem_cons.mp hy with rfl | hy
      · exact g.1
      · exact g.2.1 y hy
theorem leastN_eq {ns : List Nat} {m : Nat} (h : m ∈ ns) (hl : ∀ y ∈ ns, m ≤ y) : m = leastN ns := by
  have g := leastN_spec (ns := ns) (by rintro rfl; cases h)
  have a := hl _ g.1
  have b := g.2 _ h
  omega
theorem leastN_int {ns : List Nat} {m : Int} (h : m ∈ ns.map (fun n : Nat => (n : Int))) (hl : ∀ y ∈ ns.map (fun n : Nat => (n : Int)), m ≤ y) : m = (leastN ns : Nat) := by
  obtain ⟨k, hk, rfl⟩ := List.mem_map.mp h
  rw [leastN_eq hk fun y hy => Int.ofNat_le.mp (hl _ (List.mem_map.mpr ⟨y, hy, rfl⟩))]
/-- the least indent of lines that are not blank -/
def leads (ws : List (List Nat)) : List Nat := (ws.filter fun l => !spaces l).map lead
def levW (ws : List (List Nat)) : List (List Nat) := ws.map (·.drop (leastN (leads ws)))
theorem spaces_drop {l : List Nat} {k : Nat} (hk : k ≤ lead l) : spaces (l.drop k) = spaces l := by
  cases e : spaces l with
  | true =>
    unfold spaces at e ⊢
    rw [List.all_eq_true] at e ⊢
    exact fun c hc => e c (List.mem_of_mem_drop hc)
  | false =>
    cases e2 : spaces (l.drop k) with
    | false => rfl
    | true =>
      have h1 : (l.take k).all (· == 32) = true := by
        have hp : l.take k <+: l.takeWhile (fun c => c == 32) := by
          refine List.prefix_of_prefix_length_le (List.take_prefix k l) (List.takeWhile_prefix _) ?_
          exact Nat.le_trans (List.length_take_le ..) hk
        rw [List.all_eq_true]
        intro c hc
        exact List.all_eq_true.mp (List.all_takeWhile (p := fun c => c == 32) (l := l)) c (hp.subset hc)
      have h2 : spaces l = true := by
        unfold spaces at e2 ⊢
        rw [← List.take_append_drop k l, List.all_append, h1, e2]
        rfl
      rw [h2] at e
      cases e
theorem levW_again (ws : List (List Nat)) : levW (levW ws) = levW ws := by
  have key : leastN (leads (levW ws)) = 0 := by
    unfold levW
    generalize hm : leastN (leads ws) = m
    have hle : ∀ l ∈ ws, spaces l = false → m ≤ lead l := fun l hl hs => by
      have h : lead l ∈ leads ws := List.mem_map.mpr ⟨l, List.mem_filter.mpr ⟨hl, by rw [hs]; rfl⟩, rfl⟩
      rw [← hm]
      exact (leastN_spec (ns := leads ws) (fun z => by rw [z] at h; cases h)).2 _ h
    have hsp : ∀ l ∈ ws, spaces (l.drop m) = spaces l := fun l hl => by
      cases hs : spaces l with
      | false => rw [spaces_drop (hle l hl hs), hs]
      | true =>
        unfold spaces at hs ⊢
        rw [List.all_eq_true] at hs ⊢
        exact fun c hc => hs c (List.mem_of_mem_drop hc)
    by_cases hn : leads ws = []
    · have e2 : leads (ws.map (·.drop m)) = [] := by
        unfold leads at hn ⊢
        rw [List.map_eq_nil_iff, List.filter_eq_nil_iff] at hn ⊢
        intro l hl
        obtain ⟨l', hl', rfl⟩ := List.mem_map.mp hl
        show ¬ (!spaces (l'.drop m)) = true
        rw [hsp l' hl']
        exact hn l' hl'
      rw [e2]
      rfl
    · have g := leastN_spec hn
      rw [hm] at g
      obtain ⟨l, hl, e⟩ := List.mem_map.mp g.1
      obtain ⟨hl1, hl2⟩ := List.mem_filter.mp hl
      have hl3 : spaces l = false := by
        cases z : spaces l with
        | false => rfl
        | true =>
          rw [z] at hl2
          cases hl2
      have h0 : (0 : Nat) ∈ leads (ws.map (·.drop m)) := by
        refine List.mem_map.mpr ⟨l.drop m, List.mem_filter.mpr ⟨List.mem_map.mpr ⟨l, hl1, rfl⟩, ?_⟩, ?_⟩
        · rw [hsp l hl1, hl3]
          rfl
        · rw [lead_drop l m (by omega)]
          omega
      exact (leastN_eq h0 fun y _ => Nat.zero_le y).symm
  show (levW ws).map (·.drop (leastN (leads (levW ws)))) = levW ws
  rw [key]
  exact (List.map_congr_left fun l _ => List.drop_zero).trans (List.map_id _)
theorem lead_at : ∀ (l : List Nat), spaces l = false → ∃ c, l[lead l]? = some c ∧ (c == 32) = false ∧ ∀ (m d : Nat), m < lead l → l[m]? = some d → (d == 32) = true
  | [], h => by cases h
  | c :: l, h => by
    unfold lead
    rw [List.takeWhile_cons]
    cases e : (c == 32) with
    | false => exact ⟨c, rfl, e, fun m d hm _ => absurd hm (Nat.not_lt_zero _)⟩
    | true =>
      have h' : spaces l = false := by
        unfold spaces at h ⊢
        rw [List.all_cons, e] at h
        exact h
      obtain ⟨d, h1, h2, h3⟩ := lead_at l h'
      refine ⟨d, h1, h2, fun m g hm hg => ?_⟩
      cases m with
      | zero =>
        cases hg
        exact e
      | succ m => exact h3 m g (Nat.lt_of_succ_lt_succ hm) hg
theorem lead_by (goes : Nat → Bool) : ∀ (l : List Nat) (n : Nat), n ≤ l.length → (∀ k c, k < n → l[k]? = some c → goes c = true) → (n = l.length ∨ ∃ c, l[n]? = some c ∧ goes c = false) → (l.takeWhile goes).length = n
  | [], n, h, _, _ => (Nat.le_zero.mp h).symm
  | c :: l, 0, _, _, h3 => by
    rcases h3 with h3 | ⟨d, h3, h4⟩
    · cases h3
    · cases h3
      rw [List.takeWhile_cons, h4]
      rfl
  | c :: l, n + 1, h1, h2, h3 => by
    rw [List.takeWhile_cons, h2 0 c (Nat.zero_lt_succ _) rfl]
    show (l.takeWhile goes).length + 1 = n + 1
    rw [lead_by goes l n (Nat.le_of_succ_le_succ h1) (fun k d hk hd => h2 (k + 1) d (Nat.succ_lt_succ hk) hd) (h3.elim (fun z => .inl (Nat.succ.inj z)) .inr)]
theorem lstrip_len (x : Str) (goes : Nat → Bool) : (Txt.stripBy goes true false x).length = x.length - ((tl x).takeWhile goes).length := by
  rw [stripBy_eq]
  obtain ⟨h1, h2, h3⟩ := lo_facts goes x
  have hh : stripHi goes false x (stripLo goes true x) = x.length := rfl
  rw [hh]
  have hl : (Builtin.Str.strSub x (stripLo goes true x) x.length).length = x.length - stripLo goes true x := by
    rw [len_tl, tl_strSub, List.length_take, List.length_drop, ← len_tl]
    omega
  rw [hl]
  have get : ∀ k c, (tl x)[k]? = some c → x.cps.getD k 0 = c := fun k c h => by
    have hk := (List.getElem?_eq_some_iff.mp h).1
    have hk' : k < x.cps.size := by simpa [tl] using hk
    have e2 := (List.getElem?_eq_some_iff.mp h).2
    rw [← e2]
    simp [tl, Array.getD, hk']
  rw [lead_by goes (tl x) (stripLo goes true x) (by rw [← len_tl]; exact h1) (fun k c hk hc => by rw [← get k c hc]; exact h2 k hk) ?_]
  rcases h3 with e | e
  · exact .inl (by rw [e, len_tl])
  · by_cases hlt : stripLo goes true x < (tl x).length
    · refine .inr ⟨(tl x)[stripLo goes true x], List.getElem?_eq_getElem hlt, ?_⟩
      rw [← get _ _ (List.getElem?_eq_getElem hlt)]
      exact e
    · rw [len_tl] at h1
      exact .inl (by omega)
theorem contains_one (c : Nat) : (#[c] : Array Nat).contains = fun d => d == c := by
  funext d
  rw [Bool.eq_iff_iff, Array.contains_iff_mem]
  simp
theorem indent_len (x : Str) : (x.length : Int) - ((Txt.lstripChars x ⟨#[32]⟩).length : Int) = (lead (tl x) : Nat) := by
  have h : (Txt.lstripChars x ⟨#[32]⟩).length = x.length - lead (tl x) := by
    unfold Txt.lstripChars
    rw [contains_one]
    exact lstrip_len x _
  have h2 := lead_le (tl x)
  rw [← len_tl] at h2
  omega
theorem spaces_strip (x : Str) : ((Txt.stripChars x ⟨#[32]⟩).length = 0) ↔ spaces (tl x) = true := by
  unfold Txt.stripChars
  rw [strip_blank, contains_one]
  exact Iff.rfl

/-! ### min(a list of ints, default=an int) -/
section
variable {prog : Program} {w : World} {A : Around} {R : Result → Shared → Prop} {I S : Addr} {fp wr : List Addr} {arr : Array Value} {St : Nat → Heap → Prop} {val : Nat → Int} {kw : List (Str × Value)}
theorem minD_run (W : Walks prog w A.in1 I fp wr arr.size (fun i v => arr[i]? = some v) St) (cmp : CmpOf prog w A.in1 .Lt (fun i v => arr[i]? = some v) fun i j => decide (val i < val j)) (nS : S ∉ fp) :
    ∀ (k j b : Nat) (u : Shared) (x : Value) (c : Nat), arr.size = j + 1 + k → b ≤ j → (∀ i, i ≤ j → val b ≤ val i) → St (j + 1) u.heap → arr[b]? = some x →
      u.heap.get? S = some { cls := .type "list", dict := none, data := .seq #[x, x] c, slots := #[] } →
      (∀ b x h' tk, arr[b]? = some x → (∀ i, i < arr.size → val b ≤ val i) → (∀ a o, a ∉ wr → a ≠ S → u.heap.get? a = some o → h'.get? a = some o) → R (.ok (.ret x)) { u with heap := h', toks := tk }) →
      codeAny (model prog w) A (.builtin "min.loop" ⟨[.ref I, .none, .ref S], kw⟩) R u := by
  have nW : S ∉ wr := fun z => nS (W.sub _ z)
  have idn : (toString "min" ++ toString ".loop" : String) = "min.loop" := by decide +kernel
  intro k
  induction k with
  | zero =>
    intro j b u x c ek hb hv pos hx gS done
    refine codeAny_builtin F.entry_min_loop ?_; rw [Around.under_plainId F.plain_min_loop _]
    show wpAny _ A.in1 (seqItems? (.ref S) >>= _) _ _ u
    refine wpAny_bind (wpAny_seqItems gS rfl ?_)
    show wpAny _ A.in1 (tryCatch (pyNext (.ref I)) _ >>= _) _ _ u
    refine wpAny_bind (wpAny_tryCatch (W.done u _ _ (by rw [ek]; exact pos) fun h1 tk1 old1 => ?_))
    show wpAny _ A.in1 (updateSeq S (fun _ => #[]) >>= _) _ _ _; refine wpAny_bind ?_
    refine wpAny_updateSeq (old1 S _ nW gS) rfl (wpAny_bind (wpAny_letGo (wpAny_pure ?_)))
    exact done b x _ tk1 hx (fun i hi => hv i (by omega)) fun a o ha hne e => (Heap.get?_update_other _ _ (Ne.symm hne)).trans (old1 a o ha e)
  | succ k next =>
    intro j b u x c ek hb hv pos hx gS done
    refine codeAny_builtin F.entry_min_loop ?_; rw [Around.under_plainId F.plain_min_loop _]
    show wpAny _ A.in1 (seqItems? (.ref S) >>= _) _ _ u
    refine wpAny_bind (wpAny_seqItems gS rfl ?_)
    show wpAny _ A.in1 (tryCatch (pyNext (.ref I)) _ >>= _) _ _ u
    refine wpAny_bind (wpAny_tryCatch (W.item (j + 1) u _ _ (by omega) pos fun y h1 tk1 hy pos1 old1 => ?_))
    have gS1 := old1 S _ nW gS
    show wpAny _ A.in1 (tryCatch (holding [y, y] (richCompare .Lt y x >>= _)) _ >>= _) _ _ _
    refine wpAny_bind (wpAny_tryCatch (wpAny_holding (wpAny_bind (cmp (j + 1) b y x _ _ _ hy hx ?_))))
    refine wpAny_bind (wpAny_holding (wpAny_truthy_bool ?_)); refine wpAny_bind (wpAny_letGo (wpAny_pure ?_))
    by_cases lt : val (j + 1) < val b
    · rw [if_pos (show (fun i j => decide (val i < val j)) (j + 1) b = true from decide_eq_true lt)]
      refine wpAny_bind ?_; refine wpAny_updateSeq gS1 rfl (wpAny_bind (wpAny_letGo ?_)); rw [idn]
      refine wpAny_pure ⟨plainId_quiet F.plain_min_loop _, next (j + 1) (j + 1) _ y _ (by omega) (Nat.le_refl _) (fun i hi => ?_) (W.frame _ _ _ pos1 fun a ha o e => ?_) hy (Heap.get?_update_self _ gS1 rfl) fun b' x' h2 tk2 e1 e2 old2 => ?_⟩
      · by_cases hi2 : i = j + 1
        · rw [hi2]
          exact Int.le_refl _
        · have := hv i (by omega)
          omega
      · exact (Heap.get?_update_other _ _ (fun z : S = a => nS (z ▸ ha))).trans e
      · exact done b' x' h2 tk2 e1 e2 fun a o ha hne e => old2 a o ha hne ((Heap.get?_update_other _ _ (Ne.symm hne)).trans (old1 a o ha e))
    · rw [if_neg (show ¬ (fun i j => decide (val i < val j)) (j + 1) b = true from fun z => lt (of_decide_eq_true z))]
      refine wpAny_bind (wpAny_letGo ?_); rw [idn]
      refine wpAny_pure ⟨plainId_quiet F.plain_min_loop _, next (j + 1) b _ x c (by omega) (by omega) (fun i hi => ?_) pos1 hx gS1 fun b' x' h2 tk2 e1 e2 old2 => ?_⟩
      · by_cases hi2 : i = j + 1
        · rw [hi2]
          omega
        · exact hv i (by omega)
      · exact done b' x' h2 tk2 e1 e2 fun a o ha hne e => old2 a o ha hne (old1 a o ha e)
theorem minD_from (W : Walks prog w A.in1 I fp wr arr.size (fun i v => arr[i]? = some v) St) (cmp : CmpOf prog w A.in1 .Lt (fun i v => arr[i]? = some v) fun i j => decide (val i < val j)) (nS : S ∉ fp) {d : Value} {z : Str}
    {u : Shared} {c : Nat} (pos : St 0 u.heap) (gS : u.heap.get? S = some { cls := .type "list", dict := none, data := .seq #[] c, slots := #[] })
    (dflt : ∀ h' tk, arr.size = 0 → (∀ a o, a ∉ wr → a ≠ S → u.heap.get? a = some o → h'.get? a = some o) → R (.ok (.ret d)) { u with heap := h', toks := tk })
    (done : ∀ b x h' tk, arr[b]? = some x → (∀ i, i < arr.size → val b ≤ val i) → (∀ a o, a ∉ wr → a ≠ S → u.heap.get? a = some o → h'.get? a = some o) → R (.ok (.ret x)) { u with heap := h', toks := tk }) :
    codeAny (model prog w) A (.builtin "min.loop" ⟨[.ref I, .none, .ref S], [(z, d)]⟩) R u := by
  have nW : S ∉ wr := fun z => nS (W.sub _ z)
  have idn : (toString "min" ++ toString ".loop" : String) = "min.loop" := by decide +kernel
  refine codeAny_builtin F.entry_min_loop ?_; rw [Around.under_plainId F.plain_min_loop _]
  show wpAny _ A.in1 (seqItems? (.ref S) >>= _) _ _ u
  refine wpAny_bind (wpAny_seqItems gS rfl ?_)
  show wpAny _ A.in1 (tryCatch (pyNext (.ref I)) _ >>= _) _ _ u
  by_cases h0 : arr.size = 0
  · refine wpAny_bind (wpAny_tryCatch (W.done u _ _ (by rw [h0]; exact pos) fun h1 tk1 old1 => ?_))
    refine wpAny_bind (wpAny_rule (wpAny_pure ?_))
    exact dflt h1 tk1 h0 fun a o ha _ e => old1 a o ha e
  · refine wpAny_bind (wpAny_tryCatch (W.item 0 u _ _ (by omega) pos fun y h1 tk1 hy pos1 old1 => ?_))
    have gS1 := old1 S _ nW gS
    show wpAny _ A.in1 (updateSeq S (fun _ => #[y, y]) >>= _) _ _ _; refine wpAny_bind ?_
    refine wpAny_updateSeq gS1 rfl ?_; rw [idn]
    refine wpAny_pure ⟨plainId_quiet F.plain_min_loop _, minD_run W cmp nS (arr.size - 1) 0 0 _ y _ (by omega) (Nat.le_refl _) (fun i hi => by rw [Nat.le_zero.mp hi]; exact Int.le_refl _) (W.frame _ _ _ pos1 fun a ha o e => ?_) hy (Heap.get?_update_self _ gS1 rfl) fun b' x' h2 tk2 e1 e2 old2 => ?_⟩
    · exact (Heap.get?_update_other _ _ (fun z : S = a => nS (z ▸ ha))).trans e
    · exact done b' x' h2 tk2 e1 e2 fun a o ha hne e => old2 a o ha hne ((Heap.get?_update_other _ _ (Ne.symm hne)).trans (old1 a o ha e))
end
theorem minD_args (a v : Value) : argsOk "min" ⟨[a], [(Str.ofString "default", v)]⟩ := by unfold argsOk; kernel_rfl
theorem minD_raw {prog : Program} {w : World} {A : Around} {E : Value → Shared → Prop} {s : Shared} {l : Addr} {its : List Value} {ns : List Int} {d : Value} {Q : Value → Shared → Prop} (hh : A.handled = none) (hl : s.heap.IsList l its.toArray) (hi : IntsAre its ns)
    (dflt : ∀ h' tk, ns = [] → (∀ a o, s.heap.get? a = some o → h'.get? a = some o) → Q d { s with heap := h', toks := tk })
    (done : ∀ h' tk m t, m ∈ ns → (∀ y ∈ ns, m ≤ y) → (∀ a o, s.heap.get? a = some o → h'.get? a = some o) → Q (.int m t) { s with heap := h', toks := tk }) :
    wpAny (model prog w) A (call (.builtin "min") [.ref l] [(Str.ofString "default", d)]) Q E s := by
  obtain ⟨xs, e⟩ := hi.allInts.items
  have hn : numsOf (intItems xs).toList = ns := by rw [← e]; exact hi.numsOf
  rw [nums_intItems] at hn
  subst hn
  rw [e] at hl
  have idn : (toString "min" ++ toString ".loop" : String) = "min.loop" := by decide +kernel
  have ld : ∀ i, i < (intItems xs).size → ∃ p, xs.toList[i]? = some p ∧ numAt xs i = p.1 := fun i hlt => by
    have hlt' : i < xs.size := by simpa [intItems] using hlt
    refine ⟨xs[i], by simp [hlt'], by simp [numAt, hlt']⟩
  refine kmk_tree F.kind_min F.plain_min F.entry_min (minD_args _ _) ?_
  show wpAny _ A.in1 (Builtin.Builtins.bindParams "min" ["key", "default"] 0 ⟨[], [(Str.ofString "default", d)]⟩ >>= _) _ _ s
  refine wpAny_bind (wpAny_of_eq (show Builtin.Builtins.bindParams "min" ["key", "default"] 0 ⟨[], [(Str.ofString "default", d)]⟩ = pure [none, some d] from rfl) ?_)
  refine wpAny_bind (wpAny_pure (wpAny_bind (iter_intList hl fun s2 e2 pos hfp hlI => ?_)))
  subst e2
  refine wpAny_bind (wpAny_newObj_type ?_); rw [idn]
  have nS : (s.heap.push { cls := .type "list_iterator", data := .fields #[.ref l, .int 0 0] }).objs.size ∉ [s.heap.objs.size, l] := fun z => Nat.lt_irrefl _ (hfp _ z)
  have W := Walks.list (prog := prog) (w := w) (A := A.in1) hh _ l hlI (intItems xs)
  have old : ∀ h' : Heap, (∀ a o, a ∉ [s.heap.objs.size] → a ≠ (s.heap.push { cls := .type "list_iterator", data := .fields #[.ref l, .int 0 0] }).objs.size → ((s.heap.push { cls := .type "list_iterator", data := .fields #[.ref l, .int 0 0] }).push { cls := .type "list", data := .seq #[] }).get? a = some o → h'.get? a = some o) → ∀ a o, s.heap.get? a = some o → h'.get? a = some o := fun h' k a o g => by
    have lt := Heap.lt_size g
    refine k a o (fun z => ?_) (fun z => ?_) (Heap.get?_push_of_some _ (Heap.get?_push_of_some _ g))
    · rw [List.mem_singleton.mp z] at lt
      exact Nat.lt_irrefl _ lt
    · rw [z, Heap.size_push] at lt
      exact Nat.lt_irrefl _ (Nat.lt_of_succ_lt lt)
  refine wpAny_pure ⟨plainId_quiet F.plain_min_loop _, minD_from W (CmpOf.ints_lt (numAt xs) (fun _ _ => intItems_at)) nS (W.frame _ _ _ pos fun a _ o g => Heap.get?_push_of_some _ g) (Heap.get?_push_size _ rfl) (fun h' tk h0 k => ?_) fun b x h' tk hx hle k => ?_⟩
  · refine dflt h' tk ?_ (old h' k)
    have hz : xs.toList.length = 0 := by simpa [intItems] using h0
    rw [List.length_eq_zero_iff.mp hz]
    rfl
  · obtain ⟨t, rfl⟩ := intItems_at hx
    obtain ⟨p, hp, ep⟩ := ld b (Array.getElem?_eq_some_iff.mp hx).1
    refine done h' tk _ t ?_ (fun y hy => ?_) (old h' k)
    · rw [ep]
      exact List.mem_map.mpr ⟨p, List.mem_of_getElem? hp, rfl⟩
    · obtain ⟨q, hq, rfl⟩ := List.mem_map.mp hy
      obtain ⟨i, hi', rfl⟩ := List.getElem_of_mem hq
      have hlt : i < (intItems xs).size := by simpa [intItems] using hi'
      obtain ⟨q, hq2, eq⟩ := ld i hlt
      rw [List.getElem?_eq_getElem hi'] at hq2
      cases hq2
      rw [← eq]
      exact hle i hlt
def rMinD (K : PySem.W.Frag) : List V → List V → Hp → VK → Prop := fun vs zs H Q => ∃ (a : Addr) (ns : List Int) (d : Int), vs = [V.ref a] ∧ zs = [.int d] ∧ SqL K H a (ns.map V.int) ∧ ∀ m, (ns = [] ∧ m = d) ∨ (m ∈ ns ∧ ∀ y, y ∈ ns → m ≤ y) → Q (.int m) H
theorem cr_minD {X : Cx} (hc : X.calm = true) : CallRK X (.builtin "min") ["default"] (rMinD X.K) := by
  intro pins s σ H xs zs us ws Q I r1 r2 h
  obtain ⟨a, ns, d, rfl, rfl, sq, q⟩ := h
  obtain ⟨its, rv, hl, _⟩ := I.list sq
  rw [Vals.ref1 r1]
  cases r2 with
  | cons r rr =>
    cases rr
    obtain ⟨t, rfl⟩ := r
    exact minD_raw (I.ok.hd hc) hl.isList rv.ints (fun h' tk e k => ⟨.int _, H, I.kept k, ⟨_, rfl⟩, q d (.inl ⟨e, rfl⟩)⟩) fun h' tk m t' h1 h2 k => ⟨.int _, H, I.kept k, ⟨_, rfl⟩, q m (.inr ⟨h1, h2⟩)⟩

/-! ### (*xs, y) = a list -/
section
variable {prog : Program} {w : World} {A : Around} {E : Value → Shared → Prop} {s : Shared}
theorem star_front {l : Addr} {items : Array Value} {Q : List Value → Shared → Prop} (hl : s.heap.IsList l items) (hh : A.handled = none) (h1 : 1 ≤ items.size) (hz : items.size ≤ 16384)
    (h : ∀ (h' : Heap) (tk : Nat), (∀ b o, s.heap.get? b = some o → h'.get? b = some o) →
      Q (.ref h'.objs.size :: items.toList.drop (items.size - 1)) { s with heap := h'.push { cls := .type "list", data := .seq (items.toList.take (items.size - 1)).toArray }, toks := tk }) :
    wpAny (model prog w) A (unpackItems (.ref l) 2 (some 0)) Q E s := by
  have hl2 := hl
  obtain ⟨ob, hob, _⟩ := hl2
  have sz := Heap.lt_size hob
  have ne : l ≠ s.heap.objs.size := Nat.ne_of_lt sz
  unfold unpackItems notIterableAtAll
  refine wpAny_bind (wpAny_bind (wpAny_specialOf hl.typeIs slot_list_iter.lookup (wpAny_pure ?_)))
  rw [if_neg (by decide)]
  refine wpAny_bind (wpAny_holding (wpAny_pyIter_list hl (wpAny_bind (wpAny_holding (wpAny_pure ?_)))))
  rw [if_neg (Nat.not_lt_zero _)]
  refine wpAny_bind (wpAny_holding (PySem.W.kun_collect (T := "list_iterator") (items := items) (.inr (.inr (.inl rfl))) (Walks.list (A := A.in1) hh s.heap.objs.size l ne items) (fun _ _ z => z.1.typeIs) (k := 0) (Nat.zero_le _) ⟨⟨_, Heap.get?_push_size _ rfl, rfl, rfl⟩, hl.push _⟩ ?_ ?_ (fun h2 tk kp => ?_) ?_))
  · rw [Heap.size_push]
    exact Nat.lt_succ_self _
  · rw [Heap.size_push]
    exact Nat.lt_succ_of_lt sz
  · have ln : items.toList.length = items.size := Array.length_toList
    rw [List.drop_zero]
    show wpAny _ _ (if items.toList.length < 1 then _ else _) _ _ _
    rw [if_neg (by omega)]
    refine wpAny_bind (wpAny_newList (wpAny_pure ?_) ?_)
    · show Q ([] ++ [Value.ref h2.objs.size] ++ items.toList.drop (items.toList.length - 1)) _
      rw [ln]
      exact h h2 tk fun b o e => kp b o (Nat.ne_of_lt (Heap.lt_size e)) (Heap.get?_push_of_some _ e)
    · rw [List.length_take, sizeLine_eq]
      omega
  · rw [sizeLine_eq]
    omega
end
theorem vals_last : ∀ {xs : List V} {y : V} {its : List Value}, Vals (xs ++ [y]) its → ∃ us z, its = us ++ [z] ∧ Vals xs us ∧ RelV y z
  | [], y, its, h => by
    cases h with
    | cons r rr =>
      cases rr
      exact ⟨[], _, rfl, .nil, r⟩
  | x :: xs, y, its, h => by
    cases h with
    | cons r rr =>
      obtain ⟨us, z, e, a, b⟩ := vals_last rr
      exact ⟨_ :: us, z, by rw [e]; rfl, .cons r a, b⟩
def gStar (K : PySem.W.Frag) (t : TGs) : TG := fun v σ H Q => ∃ (l : Addr) (xs : List V) (y : V), v = .ref l ∧ SqL K H l (xs ++ [y]) ∧ xs.length ≤ 16000 ∧ ∀ D, H D = none → t [.ref D, y] σ (upd H D (.lst xs)) Q
theorem pg_star {X : Cx} {e f : Expr} {k : Nat} {p pos : Pos} {t : TGs} (hc : X.calm = true) (h : PGs X [e, f] t)
    (hn : (assignEach [.Starred e p, f] X.env).length = 2 := by rfl) (hst : (assignEach [.Starred e p, f] X.env).findIdx? (·.1) = some 0 := by rfl)
    (hm : (assignEach [.Starred e p, f] X.env).map (·.2) = (assignEach [e, f] X.env).map (·.2) := by rfl) : PG X (.Tuple [.Starred e p, f] k pos) (gStar X.K t) := by
  refine ⟨fun pins s σ H v u Q I r hw => ?_⟩
  obtain ⟨l, xs, y, e1, hq, hz, hw⟩ := hw
  subst e1
  cases r
  obtain ⟨its, rv, ht, hz2⟩ := I.list hq
  obtain ⟨us, z, rfl, r1, r2⟩ := vals_last rv
  have lu : xs.length = us.length := r1.length
  have sz : (us ++ [z]).toArray.size = us.length + 1 := by simp
  rw [assign_Tuple]
  refine wpAny_bind (wpAny_standAt ?_)
  unfold unpack
  rw [hn, hst]
  refine wpAny_bind (wpAny_holding (star_front ht.isList (I.ok.hd hc) (by omega) (by omega) fun h' tk kp => ?_))
  rw [hm, sz]
  have e1 : (us ++ [z]).toArray.toList.take (us.length + 1 - 1) = us := by simp
  have e2 : (us ++ [z]).toArray.toList.drop (us.length + 1 - 1) = [z] := by simp
  rw [e1, e2]
  have I1 : Inv X pins σ H { s with heap := h', toks := tk } := I.kept (t' := tk) kp
  have hf : H h'.objs.size = none := I1.hok.fresh (Nat.le_refl _)
  have I2 : Inv X pins σ (upd H h'.objs.size (.lst xs)) { s with heap := h'.push { cls := .type "list", data := .seq us.toArray }, toks := tk } := I1.laid (t' := tk) (fun b u q => Heap.get?_push_of_some _ q) (Nat.le_refl _) ⟨by rw [sizeLine_eq]; omega, us, 0, r1, Heap.get?_push_size _ rfl⟩
  exact h.run pins _ σ _ [.ref h'.objs.size, y] [.ref h'.objs.size, z] Q I2 (.cons rfl (.cons r2 .nil)) (hw _ hf)

/-! ### own classes: made by name, their fields within comprehensions -/
theorem vals_app : ∀ {vs : List V} {us : List Value} {zs : List V} {ws : List Value}, Vals vs us → Vals zs ws → Vals (vs ++ zs) (us ++ ws)
  | _, _, _, _, .nil, r => r
  | _, _, _, _, .cons a b, r => .cons a (vals_app b r)
structure OwnC (P : Program) (w : World) (K : PySem.W.Frag) (mg : Str → Option Value) (base : Heap) (x : Str) (C : Addr) (k : Nat) (ps ks : List Str) (n : Nat) (sp : Sp) : Prop where
  ex : ∃ f fd g, Mk K C f ∧ FnOk P w K mg base CX0 k f fd ps sp ∧ KBn K fd ps (n + 1) ks g (fun vs zs => vs ++ zs) ∧ mg x = some (.ref C)
theorem pe_ownC {X : Cx} {x : Str} {C : Addr} {k n : Nat} {ps ks : List Str} {sp : Sp} {e : Expr} {es : List Expr} {kws : List Keyword} {t tk : TA} {p pos : Pos} (O : OwnC X.prog X.w X.K X.mg X.base x C k ps ks n sp) (hr : Room (k + 1) X.A) (hg : Gl X x) (ha : PA X (e :: es) t) (hkw : PK X kws tk)
    (hall : (backToKw pos (keywordEach kws X.env)).all (·.1.isSome) = true := by rfl) (hks : (backToKw pos (keywordEach kws X.env)).filterMap (·.1) = ks := by rfl) (hdb : (x == ("__debug__" : Str)) = false := by decide) (he : starEach (e :: es) X.env = (false, eval e X.env) :: starEach es X.env := by rfl)
    (hpl : ((backTo pos (starEach (e :: es) X.env)).any (·.1) || (backToKw pos (keywordEach kws X.env)).any (·.1.isNone)) = false := by rfl) : PE X (.Call (.Name x p) (e :: es) kws pos) (tMakeK C n ks.length sp (fun vs zs => vs ++ zs) E0 t tk) := by
  obtain ⟨f, fd, g, M, F, hb, hm⟩ := O.ex
  exact pe_makeK M F hr hg hm hb pass0 ha hkw hall hks hdb he hpl
theorem FunD_okN {P : Program} {w : World} {K : PySem.W.Frag} {mg : Str → Option Value} {base : Heap} {x qual : Str} {params : Arguments} {body : List Stmt} {scope : Scope} {dvs : List V} {kws : List (Str × V)} {f : Addr} {fd : FuncData} {N ps : List Str} {k : Nat} {sp : Sp}
    (F : FunD K x qual params body scope dvs kws f fd) (S : FnScope N ps scope) (len : ∀ vs H Q E, sp vs H Q E → vs.length = ps.length)
    (hbody : ∀ (cdv : Value) (A : Around) (outer : List Env) (s : Shared) (H : Hp) (vs : List V) (Q : VK) (E : XK), Room k (A.deeper (envOfC qual scope s.heap.objs.size f cdv)) → sp vs H Q E →
      ∃ t, PSs (cxOf CX0 P w K mg base N qual scope f cdv A outer s H E).nox body t ∧ t { nx := fun _ H' => Q .non H', rt := Q } (start N vs) H) : FnOk P w K mg base CX0 (k + 1) f fd ps sp :=
  FunD.ok F S len fun cdv A outer s H vs Q E hr hsp => by
    obtain ⟨t, h, q⟩ := hbody cdv A outer s H vs Q E hr hsp
    exact ⟨t, h.nox, q⟩
theorem pe_fldK {X : Cx} {K' : PySem.W.Frag} (hK : X.K = K') {e : Expr} {ta : TE} {f : Str} {pos : Pos} (he : PE X e ta) (hb : attributeBase e f X.env (eval e X.env) = eval e X.env) : PE X (.Attribute e f pos) (tFld K' ta f) := by
  subst hK
  exact pe_fld he hb
theorem call_isiK {X : Cx} {K' : PySem.W.Frag} (hK : X.K = K') : CallR X (.builtin "isinstance") (rIsi K') := by
  subst hK
  exact call_isi
def tReplN (y z : Str) (to : TE) : TE := fun σ H Q => to σ H fun x H1 => ∃ a : Str, x = .str a ∧ (Builtin.Str.occurrences a y 0 a.length (a.length + 1)).isEmpty = true ∧ Q (.str a) H1
theorem replN {prog : Program} {w : World} {A : Around} {E : Value → Shared → Prop} {s : Shared} {x y z : Str} {t u v : Tok} {Q : Value → Shared → Prop} (h : (Builtin.Str.occurrences x y 0 x.length (x.length + 1)).isEmpty = true) (hq : ∀ t' k, Q (.str x t') { s with toks := k }) :
    wpAny (model prog w) A (call (.builtin "str.replace") [.str x t, .str y u, .str z v]) Q E s := by
  refine wpAny_call (codeAny_call_builtin PySem.F.slot_str_replace.plain PySem.F.entry_str_replace (PySem.F.slot_str_replace.check _ _ _ _ _ _ _ _ (typeIs_str _ _ _) (PySem.F.args_str_replace_3 _ _ _) ?_))
  show wpAny _ _ (if ((Builtin.Str.occurrences x y 0 x.length (x.length + 1)).isEmpty || (y.length == 0 && z.length == 0)) = true then (do rule "str.replace.nothing"; PySem.ret (.str x t)) else _) _ _ _
  rw [h, Bool.true_or, if_pos rfl]
  exact wpAny_bind (wpAny_rule (wpAny_pure (hq t s.toks)))
theorem pe_replN {X : Cx} {o : Expr} {to : TE} {y z : Str} {j0 j1 : Nat} {c0 c1 apos pos : Pos} (ho : PE X o to) (hst : starEach [.Constant (.str y) j0 c0, .Constant (.str z) j1 c1] X.env = [(false, eval (.Constant (.str y) j0 c0) X.env), (false, eval (.Constant (.str z) j1 c1) X.env)] := by rfl)
    (hbase : attributeBase o "replace" X.env (eval o X.env) = eval o X.env := by rfl) (hline : (apos.endLine == pos.line) = true := by rfl) : PE X (.Call (.Attribute o "replace" apos) [.Constant (.str y) j0 c0, .Constant (.str z) j1 c1] [] pos) (tReplN y z to) := by
  refine ⟨fun pins s σ H Q I h => ?_⟩
  refine PySem.Call_method2 hbase hst hline (thn (ho.run pins s σ H _ I h) fun v s1 ⟨x, H1, I1, r1, a, ex, hb, q⟩ => ?_)
  subst ex
  obtain ⟨tx, rfl⟩ := r1
  refine ⟨"str", _, PySem.F.plainAttrs_str, PySem.F.slot_str_replace, PySem.F.type_str_replace, typeIs_str _ _ _, (fun _ e => nomatch e), Calls.callWith_builtin rfl (Calls.evalArgs_plain (Calls.spliced_cons (Calls.Constant_str (Calls.spliced_cons (Calls.Constant_str (Calls.spliced_nil ?_))))))⟩
  exact replN hb fun t' k => ⟨.str a, H1, I1.tok k, ⟨t', rfl⟩, q⟩
structure Txt_Example (K : PySem.W.Frag) (mg : Str → Option Value) (C : Addr) : Prop where
  cl : Cls K C
  mgC : mg "Example" = some (.ref C)
  ha : PySem.W.findIn K (.ref C) "__class__" = some (some (.builtin "object.__class__"))
  hn : PySem.W.specialIn K (.builtin "object.__class__") "__get__" = some (some (.builtin "getset_descriptor.__get__"))
  ht : PySem.W.takesIn K (.builtin "object.__class__") = some true
  hm : PySem.W.mroIn K C (.type "object") = some true
  ko : PySem.W.kitOne K (.ref C) (.ref C) = some true
  n_source : NoAttr K C "source"
  n_want : NoAttr K C "want"
  n_error : NoAttr K C "error"
  n_line : NoAttr K C "line"
  n_indent : NoAttr K C "indent"
  n_options : NoAttr K C "options"
  n_bare : NoAttr K C "bare"
structure Txt_Comment (K : PySem.W.Frag) (mg : Str → Option Value) (C : Addr) : Prop where
  cl : Cls K C
  mgC : mg "Comment" = some (.ref C)
  ha : PySem.W.findIn K (.ref C) "__class__" = some (some (.builtin "object.__class__"))
  hn : PySem.W.specialIn K (.builtin "object.__class__") "__get__" = some (some (.builtin "getset_descriptor.__get__"))
  ht : PySem.W.takesIn K (.builtin "object.__class__") = some true
  hm : PySem.W.mroIn K C (.type "object") = some true
  ko : PySem.W.kitOne K (.ref C) (.ref C) = some true
  n_source : NoAttr K C "source"
  n_want : NoAttr K C "want"
  n_line : NoAttr K C "line"
  n_indent : NoAttr K C "indent"

/-! ### what a test asks is monotone -/
def MonoT (t : TT) : Prop := ∀ (σ : L2.St) (H : Hp) (Q Q' : Bool → Hp → Prop), (∀ (b : Bool) (H1 : Hp), Q b H1 → Q' b H1) → t σ H Q → t σ H Q'
def MonoE (t : TE) : Prop := ∀ (σ : L2.St) (H : Hp) (Q Q' : VK), (∀ (v : V) (H1 : Hp), Q v H1 → Q' v H1) → t σ H Q → t σ H Q'
def MonoA (t : TA) : Prop := ∀ (σ : L2.St) (H : Hp) (Q Q' : List V → Hp → Prop), (∀ (v : List V) (H1 : Hp), Q v H1 → Q' v H1) → t σ H Q → t σ H Q'
theorem mo_test {t : TE} (h : MonoE t) : MonoT (tTest t) := fun σ H Q Q' i q => h σ H _ _ (fun v H1 ⟨c, e, z⟩ => ⟨c, e, i _ _ z⟩) q
theorem mo_B {t : TE} (h : MonoE t) : MonoT (tB t) := fun σ H Q Q' i q => h σ H _ _ (fun v H1 ⟨c, e, z⟩ => ⟨c, e, i _ _ z⟩) q
theorem mo_not {t : TT} (h : MonoT t) : MonoT (tNot t) := fun σ H Q Q' i q => h σ H _ _ (fun b H1 z => i _ _ z) q
theorem mo_and {t u : TT} (h : MonoT t) (k : MonoT u) : MonoT (tAnd t u) := fun σ H Q Q' i q => h σ H _ _ (fun b H1 z => by
  cases b with
  | true => exact k σ H1 _ _ i z
  | false => exact i _ _ z) q
theorem mo_var {i : Nat} : MonoE (tVar i) := fun σ H Q Q' i ⟨v, e, q⟩ => ⟨v, e, i _ _ q⟩
theorem mo_const {v : V} : MonoE (tC v) := fun σ H Q Q' i q => i _ _ q
theorem mo_op {r : R2} {a b : TE} (hr : ∀ x y H (Q Q' : VK), (∀ (v : V) (H1 : Hp), Q v H1 → Q' v H1) → r x y H Q → r x y H Q') (ha : MonoE a) (hb : MonoE b) : MonoE (tOp r a b) := fun σ H Q Q' i q =>
  ha σ H _ _ (fun x H1 z => hb σ H1 _ _ (fun y H2 z => hr _ _ _ _ _ i z) z) q
theorem mo_nil : MonoA tNil := fun σ H Q Q' i q => i _ _ q
theorem mo_cons {e : TE} {t : TA} (he : MonoE e) (ht : MonoA t) : MonoA (tCons e t) := fun σ H Q Q' i q => he σ H _ _ (fun x H1 z => ht σ H1 _ _ (fun xs H2 z => i _ _ z) z) q
theorem mo_cb {r : List V → Hp → VK → Prop} {t : TA} (hr : ∀ xs H (Q Q' : VK), (∀ (v : V) (H1 : Hp), Q v H1 → Q' v H1) → r xs H Q → r xs H Q') (ht : MonoA t) : MonoE (tCB r t) := fun σ H Q Q' i q => ht σ H _ _ (fun xs H1 z => hr _ _ _ _ i z) q
theorem mo_call {sp : Sp} {dvs : List V} {E : XK} {t : TA} (hs : ∀ vs H (Q Q' : VK) E, (∀ (v : V) (H1 : Hp), Q v H1 → Q' v H1) → sp vs H Q E → sp vs H Q' E) (ht : MonoA t) : MonoE (tCall sp dvs E t) := fun σ H Q Q' i q => ht σ H _ _ (fun vs H1 z => hs _ _ _ _ _ i z) q
theorem mo_m1 {r : V → List V → Hp → VK → Prop} {a b : TE} (hr : ∀ x xs H (Q Q' : VK), (∀ (v : V) (H1 : Hp), Q v H1 → Q' v H1) → r x xs H Q → r x xs H Q') (ha : MonoE a) (hb : MonoE b) : MonoE (tM1 r a b) := fun σ H Q Q' i q =>
  ha σ H _ _ (fun x H1 ⟨e, z⟩ => ⟨e, hb σ H1 _ _ (fun y H2 z => hr _ _ _ _ _ i z) z⟩) q
theorem mo_I0 {g : Int → Int → V} : ∀ x y H (Q Q' : VK), (∀ (v : V) (H1 : Hp), Q v H1 → Q' v H1) → rI0 g x y H Q → rI0 g x y H Q' := fun x y H Q Q' i ⟨a, b, e1, e2, q⟩ => ⟨a, b, e1, e2, i _ _ q⟩
theorem mo_ix {K : PySem.W.Frag} : ∀ x y H (Q Q' : VK), (∀ (v : V) (H1 : Hp), Q v H1 → Q' v H1) → rIxL K x y H Q → rIxL K x y H Q' := fun x y H Q Q' i ⟨p, xs, j, z, e1, e2, e3, e4, q⟩ => ⟨p, xs, j, z, e1, e2, e3, e4, i _ _ q⟩

/-! ### levelled -/
theorem nine_spaces {l : List Nat} (h : ∀ c ∈ l, c ≠ 9) : isBlank l = spaces l := by
  unfold isBlank spaces
  induction l with
  | nil => rfl
  | cons c l ih =>
    have h9 : (c == 9) = false := beq_eq_false_iff_ne.mpr (h c (List.mem_cons_self ..))
    rw [List.all_cons, List.all_cons, h9, Bool.or_false, ih fun d m => h d (List.mem_cons_of_mem _ m)]
theorem exp_no9 (n col : Nat) (l : List Nat) : ∀ c ∈ Mun.expT n col l, c ≠ 9 := fun c h => by
  rcases Mun.exp_mem l col c h with rfl | ⟨_, h⟩
  · decide
  · exact h
theorem exp_no (n col : Nat) {l : List Nat} {d : Nat} (hd : d ≠ 32) (hl : d ∉ l) : d ∉ Mun.expT n col l := fun h => by
  rcases Mun.exp_mem l col d h with e | ⟨e, _⟩
  · exact hd e
  · exact hl e
theorem mk_of_tl : ∀ {ss : List Str} {ws : List (List Nat)}, ss.map tl = ws → ss = ws.map mk
  | [], ws, h => by
    rw [← h]
    rfl
  | s :: r, ws, h => by
    rw [← h, List.map_cons, List.map_cons, mk_tl', ← mk_of_tl (ss := r) rfl]
theorem split_join {x : Str} {ws : List (List Nat)} (h : tl x = joinL [10] ws) (hn : ws ≠ []) (h10 : ∀ l ∈ ws, (10 : Nat) ∉ l) : Txt.split x "\n" = ws.map mk := by
  refine mk_of_tl ?_
  rw [nl_eq, splitOf x (y := [10]) (by simp) (by decide), h]
  exact TL.spl_join hn h10
theorem sp_one : (" " : Str) = ⟨#[32]⟩ := ext_tl (by decide +kernel)
theorem len_one {a : Nat} : (⟨#[a]⟩ : Str).length = 1 := rfl
theorem lead_take (ws : List (List Nat)) {i : Nat} {l : List Nat} (h : ws[i]? = some l) : leads (ws.take (i + 1)) = leads (ws.take i) ++ (if spaces l then [] else [lead l]) := by
  unfold leads
  rw [take_filter _ h, List.map_append]
  cases spaces l <;> rfl
def natV (ns : List Nat) : List V := (ns.map fun n : Nat => (n : Int)).map V.int
theorem natV_app (a b : List Nat) : natV (a ++ b) = natV a ++ natV b := by
  unfold natV
  rw [List.map_append, List.map_append]
theorem leads_len (ws : List (List Nat)) : (leads ws).length ≤ ws.length := by
  unfold leads
  rw [List.length_map]
  exact List.length_filter_le ..
theorem join_parts : ∀ ws : List (List Nat), ws.length ≤ (joinL [10] ws).length + 1 ∧ ∀ l ∈ ws, l.length ≤ (joinL [10] ws).length
  | [] => ⟨Nat.zero_le _, fun _ h => (by cases h)⟩
  | [a] => ⟨by show 1 ≤ _; omega, fun l h => by rw [List.mem_singleton.mp h]; exact Nat.le_refl _⟩
  | a :: b :: r => by
    have ih := join_parts (b :: r)
    have e : joinL [10] (a :: b :: r) = a ++ ([10] ++ joinL [10] (b :: r)) := rfl
    have el : (joinL [10] (a :: b :: r)).length = a.length + (1 + (joinL [10] (b :: r)).length) := by rw [e, List.length_append, List.length_append]; rfl
    refine ⟨by rw [el, List.length_cons]; omega, fun l h => ?_⟩
    rcases List.mem_cons.mp h with rfl | h
    · omega
    · have := ih.2 l h
      omega
theorem app_len (x y : Str) : (x ++ y).length = x.length + y.length := by
  rw [len_tl, tl_append, List.length_append, len_tl, len_tl]
theorem nl_sum (m : Nat) (ws : List (List Nat)) (h : ws ≠ []) (hl : ∀ l ∈ ws, l.length ≤ m) : (joinL [10] ws).length + 1 ≤ m * ws.length + ws.length := by
  have a := joinL_len [10] h
  have b := sum_map_le (fun l : List Nat => l.length) (fun _ => m) ws hl
  have c : (ws.map fun _ => m).sum = m * ws.length := by
    clear a b h hl
    induction ws with
    | nil => rfl
    | cons x r ih =>
      rw [List.map_cons, List.sum_cons, ih, List.length_cons, Nat.mul_succ]
      omega
  have e1 : ([10] : List Nat).length = 1 := rfl
  rw [e1] at a
  omega
theorem sp_dec (c : Nat) : decide (V.str ⟨#[c]⟩ = V.str " ") = (c == 32) := by
  rw [sp_one, Bool.eq_iff_iff, decide_eq_true_iff, beq_iff_eq]
  constructor
  · intro h
    exact List.head_eq_of_cons_eq (congrArg (fun v => match v with | V.str y => tl y | _ => []) h)
  · rintro rfl
    rfl
theorem mem_join0 {c : Nat} : ∀ ws : List (List Nat), c ∈ joinL [] ws → ∃ u ∈ ws, c ∈ u
  | [], h => by cases h
  | [a], h => ⟨a, List.mem_cons_self .., h⟩
  | a :: b :: r, h => by
    have e : joinL [] (a :: b :: r) = a ++ ([] ++ joinL [] (b :: r)) := rfl
    rw [e, List.nil_append] at h
    rcases List.mem_append.mp h with h | h
    · exact ⟨a, List.mem_cons_self .., h⟩
    · obtain ⟨u, h1, h2⟩ := mem_join0 (b :: r) h
      exact ⟨u, List.mem_cons_of_mem _ h1, h2⟩
theorem lines_sum {ws : List (List Nat)} (h : ws ≠ []) (m : Nat) : ((ws.map fun l => mk (l.drop m)).map (·.length)).sum + ws.length ≤ (joinL [10] ws).length + 1 := by
  have a := joinL_len [10] h
  have b := sum_map_le (fun l : List Nat => (mk (l.drop m)).length) (fun l => l.length) ws fun l _ => by
    show (mk (l.drop m)).length ≤ l.length
    rw [mk_len, List.length_drop]
    omega
  rw [List.map_map]
  have e : ((fun x : Str => x.length) ∘ fun l : List Nat => mk (l.drop m)) = fun l : List Nat => (mk (l.drop m)).length := rfl
  rw [e]
  have e1 : ([10] : List Nat).length = 1 := rfl
  rw [e1] at a
  omega
theorem join_lev (ws : List (List Nat)) : Txt.join "\n" (ws.map fun l => mk (l.drop (leastN (leads ws)))) = mk (joinL [10] (levW ws)) := by
  have e : (ws.map fun l => mk (l.drop (leastN (leads ws)))) = (levW ws).map mk := by
    unfold levW
    rw [List.map_map]
    rfl
  rw [e]
  exact join_mk [10] _
theorem tab_dec (c : Nat) : decide (V.str ⟨#[c]⟩ = V.str "\t") = decide (c = 9) := by
  rw [tab_eq, Bool.eq_iff_iff, decide_eq_true_iff, decide_eq_true_iff]
  constructor
  · intro h
    exact List.head_eq_of_cons_eq (congrArg (fun v => match v with | V.str y => tl y | _ => []) h)
  · rintro rfl
    rfl
theorem strip_test (x : Str) : decide (V.str (Txt.stripChars x " ") = V.str "") = spaces (tl x) := by
  rw [sp_one, Bool.eq_iff_iff, decide_eq_true_iff, ← spaces_strip]
  constructor
  · intro h
    rw [V.str.inj h]
    decide +kernel
  · intro h
    refine congrArg V.str (ext_tl ?_)
    rw [len_tl] at h
    rw [List.length_eq_zero_iff.mp h]
    decide +kernel

section
variable {P : Program} {w : World} {K : PySem.W.Frag} {mg : Str → Option Value} {base : Heap}
/-! ### the program -/
def sp_is_blank : Sp := fun vs H Q _ => ∃ x : Str, vs = [.str x] ∧ x.length ≤ 1000000 ∧ Q (.bl (isBlank (tl x))) H
theorem ok_is_blank {f : Addr} {fd : FuncData} {dvs : List V} (F : Fn K "is_blank" s_is_blank dvs f fd) {t_BLANKS : Tok} (c_BLANKS : mg "BLANKS" = some (.str " \t" t_BLANKS)) : FnOk P w K mg base CX0 1 f fd ["line"] (sp_is_blank) := by
  refine Fn.okN F sc_is_blank (fun vs H Q E h => ?_) (fun cdv A outer s H vs Q E hr h => ?_)
  · obtain ⟨_, rfl, _⟩ := h
    rfl
  · obtain ⟨x, rfl, hx, k⟩ := h
    refine ⟨_, (pss_one (ps_ret (pe_notT (pe_m1 PySem.F.slot_str_strip PySem.F.type_str_strip mt_stripChars (pv 0) (pe_glob (v := .str " \t") rfl c_BLANKS ⟨_, rfl⟩))))), ?_⟩
    have e : (" \t" : Str) = ⟨#[32, 9]⟩ := ext_tl (by decide +kernel)
    refine ⟨_, rfl, ⟨_, rfl⟩, x, " \t", rfl, rfl, line_of hx, _, ⟨?_, rfl⟩, ?_⟩
    · exact Nat.le_trans (len_stripBy _ _ _ _) (line_of hx)
    · rw [e]
      have hb := blank_strip x
      cases h : isBlank (tl x) with
      | true =>
        rw [h] at k
        rw [show (((Txt.stripChars x ⟨#[32, 9]⟩).length : Int) != 0) = false by rw [hb.mpr h]; rfl]
        exact k
      | false =>
        rw [h] at k
        have hne : (Txt.stripChars x ⟨#[32, 9]⟩).length ≠ 0 := fun z => by
          rw [hb.mp z] at h
          cases h
        rw [show (((Txt.stripChars x ⟨#[32, 9]⟩).length : Int) != 0) = true by
          rw [bne_iff_ne]
          omega]
        exact k
def sp_indent_of : Sp := fun vs H Q _ => ∃ x : Str, vs = [.str x] ∧ x.length ≤ 1000000 ∧ Q (.int (lead (tl x) : Nat)) H
theorem ok_indent_of {f : Addr} {fd : FuncData} {dvs : List V} (F : Fn K "indent_of" s_indent_of dvs f fd) (m_len : mg "len" = none) : FnOk P w K mg base CX0 1 f fd ["line"] (sp_indent_of) := by
  refine Fn.okN F sc_indent_of (fun vs H Q E h => ?_) (fun cdv A outer s H vs Q E hr h => ?_)
  · obtain ⟨_, rfl, _⟩ := h
    rfl
  · obtain ⟨x, rfl, hx, k⟩ := h
    refine ⟨_, (pss_one (ps_ret (pe_op op_sub (pe_callB call_len_str (by rfl) m_len PySem.boot_len (pa_cons (pv 0) pa_nil)) (pe_callB call_len_str (by rfl) m_len PySem.boot_len (pa_cons (pe_m1 PySem.F.slot_str_lstrip PySem.F.type_str_lstrip mt_lstripChars (pv 0) pe_str) pa_nil))))), ?_⟩
    have e := indent_len x
    rw [← sp_one] at e
    rw [← e] at k
    exact ⟨.str x, rfl, x, rfl, line_of hx, .str x, rfl, ⟨_, rfl⟩, x, " ", rfl, rfl, line_of hx, _, rfl, Nat.le_trans (len_stripBy _ _ _ _) (line_of hx), _, _, rfl, rfl, k⟩
def sp_widened : Sp := fun vs H Q _ => ∃ x : Str, vs = [.str x] ∧ (tl x).length ≤ 10000 ∧ Q (.str (SX.S (Mun.expT 8 0 (tl x)))) H
theorem ok_widened {f : Addr} {fd : FuncData} {dvs : List V} (F : Fn K "widened" s_widened dvs f fd) {t_TAB : Tok} (c_TAB : mg "TAB" = some (.int 8 t_TAB)) : FnOk P w K mg base CX0 1 f fd ["text"] (sp_widened) := by
  refine Fn.okN F sc_widened (fun vs H Q E h => ?_) (fun cdv A outer s H vs Q E hr h => ?_)
  · obtain ⟨_, rfl, _⟩ := h
    rfl
  · obtain ⟨x, rfl, hx, k⟩ := h
    refine ⟨_, (pss_one (ps_ret (pe_m1 PySem.F.slot_str_expandtabs PySem.F.type_str_expandtabs mt_expandtabs (pv 0) (pe_glob (v := .int 8) rfl c_TAB ⟨_, rfl⟩)))), ?_⟩
    have lE := (Mun.exp_len (n := 8) (by decide) (tl x) 0).2
    exact ⟨.str x, rfl, ⟨_, rfl⟩, tl x, 8, congrArg V.str (mk_tl' x).symm, rfl, by decide, by decide, by omega, by omega, k⟩
def sp_levelled : Sp := fun vs H Q _ => ∃ (x : Str) (ls : List (List Nat)), vs = [.str x] ∧ tl x = joinL [10] ls ∧ ls ≠ [] ∧ (∀ l ∈ ls, ∀ c ∈ l, c ≠ 10 ∧ c ≠ 13) ∧ (tl x).length ≤ 10000 ∧
  ∀ H', Same H H' → Q (.str (mk (joinL [10] (levW (ls.map (Mun.expT 8 0)))))) H'
theorem ok_levelled {f : Addr} {fd : FuncData} {dvs : List V} (F : Fn K "levelled" s_levelled dvs f fd) (O_widened : Own P w K mg base "widened" 1 ["text"] [] (sp_widened)) (O_is_blank : Own P w K mg base "is_blank" 1 ["line"] [] (sp_is_blank)) (O_indent_of : Own P w K mg base "indent_of" 1 ["line"] [] (sp_indent_of)) (m_min : mg "min" = none) : FnOk P w K mg base CX0 2 f fd ["text"] (sp_levelled) := by
  refine Fn.okN F sc_levelled (fun vs H Q E h => ?_) (fun cdv A outer s H vs Q E hr h => ?_)
  · obtain ⟨_, _, rfl, _⟩ := h
    rfl
  · obtain ⟨x, ls, rfl, ex, hn, hc, hx, k⟩ := h
    refine ⟨_, (pss_cons (ps_set (i := 1) sc_levelled.nd rfl (.inl rfl) (pe_m1 PySem.F.slot_str_split PySem.F.type_str_split mt_split (pe_own O_widened (hr.mono (by decide)) (by rfl) (pa_cons (pv 0) pa_nil)) pe_str))
      (pss_cons (ps_set (i := 2) sc_levelled.nd rfl (.inr rfl) (pe_callBK (cr_minD rfl) (by rfl) m_min (by decide +kernel) (pa_cons (pe_lc (own := [("line", 3)]) (g := gName 3) (by rfl) sc_levelled.nd (pi_list (pv 1)) (blkOk_by (own := [("line", 3)]) (N := ["text", "lines", "least", "line"]) (sc := defScope s_levelled) (by decide +kernel)) (fun _ _ _ _ _ => (pg_name (i := 3) sc_levelled.nd rfl (.inl rfl))) (fun _ _ _ _ _ => (pts_one (pt_not (pt_val (pe_own O_is_blank (hr.mono (by decide)) (by rfl) (pa_cons (pv 3) pa_nil)))))) (fun _ _ _ _ _ => (pe_own O_indent_of (hr.mono (by decide)) (by rfl) (pa_cons (pv 3) pa_nil)))) pa_nil) (pk_cons pe_int pk_nil)))
      (pss_one (ps_ret (pe_m1 PySem.F.slot_str_join PySem.F.type_str_join mt_join pe_str (pe_lc (own := [("line", 3)]) (g := gName 3) (tt := tYes) (by rfl) sc_levelled.nd (pi_list (pv 1)) (blkOk_by (own := [("line", 3)]) (N := ["text", "lines", "least", "line"]) (sc := defScope s_levelled) (by decide +kernel)) (fun _ _ _ _ _ => (pg_name (i := 3) sc_levelled.nd rfl (.inl rfl))) (fun _ _ _ _ _ => pts_nil) (fun _ _ _ _ _ => (pe_slice sl_str (pv 3) (po_some (pv 2)) po_none)))))))), ?_⟩
    have eE : tl (SX.S (Mun.expT 8 0 (tl x))) = joinL [10] (ls.map (Mun.expT 8 0)) := by
      rw [← exp_join ls hc, ← ex]
    have lE := (Mun.exp_len (n := 8) (by decide) (tl x) 0).2
    have hW : ls.map (Mun.expT 8 0) ≠ [] := fun z => hn (List.map_eq_nil_iff.mp z)
    have h10 : ∀ l ∈ ls.map (Mun.expT 8 0), (10 : Nat) ∉ l := fun l hl => by
      obtain ⟨l', h', rfl⟩ := List.mem_map.mp hl
      exact exp_no 8 0 (by decide) fun z => (hc l' h' 10 z).1 rfl
    have h9 : ∀ l ∈ ls.map (Mun.expT 8 0), ∀ c ∈ l, c ≠ 9 := fun l hl => by
      obtain ⟨l', h', rfl⟩ := List.mem_map.mp hl
      exact exp_no9 8 0 l'
    have eS := split_join eE hW h10
    have pj := join_parts (ls.map (Mun.expT 8 0))
    rw [← eE] at pj
    have lE2 : (tl (SX.S (Mun.expT 8 0 (tl x)))).length ≤ 80000 := by
      show (Mun.expT 8 0 (tl x)).length ≤ 80000
      omega
    generalize ls.map (Mun.expT 8 0) = W at *
    refine ⟨.str x, rfl, x, rfl, hx, ⟨_, rfl⟩, _, "\n", rfl, rfl, by decide +kernel, ?_, fun p np => ?_⟩
    · rw [len_tl]
      exact line_of (by omega)
    rw [eS]
    have sp := same_new (o := .lst ((W.map mk).map V.str)) np
    refine ⟨.ref p, rfl, p, rfl, ⟨_, SqL.of upd_same⟩, fun L nL => lc_list (K := K) (a := p) (xs := (W.map mk).map V.str) (fun i H2 => H2 L = some (.lst (natV (leads (W.take i)))) ∧ Same (upd H p (.lst ((W.map mk).map V.str))) H2) ⟨upd_same, same_new nL⟩ (fun i H2 _ h2 => SqL.of (h2.2 _ _ upd_same)) ?_ ?_⟩
    · rintro i y H2 hi ⟨eL, s2⟩
      obtain ⟨z, rfl, hz⟩ := str_at hi
      rw [List.getElem?_map] at hz
      obtain ⟨l, hl, rfl⟩ := Option.map_eq_some_iff.mp hz
      have hm := List.mem_of_getElem? hl
      have ll := pj.2 l hm
      have lw : W.length ≤ 80001 := by omega
      have hi2 : i < W.length := (List.getElem?_eq_some_iff.mp hl).1
      have lm : (mk l).length ≤ 1000000 := by rw [mk_len]; omega
      refine ⟨rfl, .str (mk l), rfl, mk l, rfl, lm, _, rfl, ?_⟩
      rw [lead_take W hl, show isBlank (tl (mk l)) = spaces l from nine_spaces (h9 l hm)]
      show (if (!spaces l) = true then _ else _)
      cases spaces l with
      | true =>
        refine iteF ⟨?_, s2⟩
        show H2 L = some (.lst (natV (leads (W.take i) ++ [])))
        rw [List.append_nil]
        exact eL
      | false =>
        have l3 := leads_len (W.take i)
        rw [List.length_take] at l3
        refine iteT ⟨.str (mk l), rfl, mk l, rfl, lm, _, eL, ?_, ?_, fun b o e => ?_⟩
        · unfold natV
          rw [List.length_map, List.length_map]
          exact Nat.lt_of_le_of_lt (show (leads (W.take i)).length ≤ 80001 by omega) (by decide)
        · rw [upd_same]
          show some (HO.lst (natV (leads (W.take i)) ++ [.int (lead l : Nat)])) = some (.lst (natV (leads (W.take i) ++ [lead l])))
          rw [natV_app]
          rfl
        · rw [upd_ne (ne_of_none e nL)]
          exact s2 b o e
    · rintro H2 ⟨eL, s2⟩
      rw [List.length_map, List.length_map, List.take_length] at eL
      refine ⟨L, (leads W).map (fun n : Nat => (n : Int)), 0, rfl, rfl, SqL.of eL, fun m hm => ?_⟩
      have em : m = (leastN (leads W) : Nat) := by
        rcases hm with ⟨e, rfl⟩ | ⟨h1, h2⟩
        · rw [List.map_eq_nil_iff.mp e]
          rfl
        · exact leastN_int h1 h2
      subst em
      generalize em : leastN (leads W) = m
      refine ⟨⟨_, rfl⟩, .ref p, rfl, p, rfl, ⟨_, SqL.of (s2 _ _ upd_same)⟩, fun M nM => lc_list (K := K) (a := p) (xs := (W.map mk).map V.str) (fun i H3 => H3 M = some (.lst (((W.take i).map fun l => mk (l.drop m)).map V.str)) ∧ Same H2 H3) ⟨upd_same, same_new nM⟩ (fun i H3 _ h3 => SqL.of (h3.2 _ _ (s2 _ _ upd_same))) ?_ ?_⟩
      · rintro i y H3 hi ⟨eM, s3⟩
        obtain ⟨z, rfl, hz⟩ := str_at hi
        rw [List.getElem?_map] at hz
        obtain ⟨l, hl, rfl⟩ := Option.map_eq_some_iff.mp hz
        have ll := pj.2 l (List.mem_of_getElem? hl)
        have lm : (mk l).length ≤ 1000000 := by rw [mk_len]; omega
        have hi2 : i < W.length := (List.getElem?_eq_some_iff.mp hl).1
        refine ⟨rfl, ?_⟩
        unfold tYes
        show ite (true = true) _ _
        rw [if_pos rfl]
        refine ⟨.str (mk l), rfl, .int (m : Nat), rfl, m, rfl, mk l, rfl, line_of lm, _, eM, ?_, ?_, fun b o e => ?_⟩
        · rw [List.length_map, List.length_map, List.length_take]
          exact Nat.lt_of_le_of_lt (show min i W.length ≤ 80001 by omega) (by decide)
        · rw [upd_same, List.take_add_one, hl, List.map_append, List.map_append]
          refine congrArg (fun v => some (HO.lst (((W.take i).map fun l => mk (l.drop m)).map V.str ++ [v]))) (congrArg V.str (ext_tl ?_))
          rw [cutS_from]
          rfl
        · rw [upd_ne (ne_of_none e nM)]
          exact s3 b o e
      · rintro H3 ⟨eM, s3⟩
        rw [List.length_map, List.length_map, List.take_length] at eM
        have sl := lines_sum hW m
        rw [← eE] at sl
        refine ⟨"\n", M, _, rfl, rfl, .inl (SqL.of eM), ?_, ?_⟩
        · rw [List.length_map]
          have e1 : ("\n" : Str).length = 1 := rfl
          rw [e1, Nat.mul_one]
          exact Nat.le_trans sl (by omega)
        · rw [← em, join_lev]
          exact k _ (sp.trans (s2.trans s3))
end

/-! ### defs that may raise -/
theorem Fn.okX {P : Program} {w : World} {K : PySem.W.Frag} {mg : Str → Option Value} {base : Heap} {x : Str} {st : Stmt} {dvs : List V} {f : Addr} {fd : FuncData} {N ps : List Str} {k : Nat} {sp : Sp} (F : Fn K x st dvs f fd) (S : FnScope N ps (defScope st)) (len : ∀ vs H Q E, sp vs H Q E → vs.length = ps.length)
    (hbody : ∀ (cdv : Value) (A : Around) (outer : List Env) (s : Shared) (H : Hp) (vs : List V) (Q : VK) (E : XK), Room k (A.deeper (envOfC x (defScope st) s.heap.objs.size f cdv)) → sp vs H Q E →
      ∃ t, PSs (cxOf (L2.CX P w) P w K mg base N x (defScope st) f cdv A outer s H E) (defBody st) t ∧ t { nx := fun _ H' => Q .non H', rt := Q } (start N vs) H) : FnOk P w K mg base (L2.CX P w) (k + 1) f fd ps sp :=
  FunD.ok F S len fun cdv A outer s H vs Q E hr hsp => hbody cdv A outer s H vs Q E hr hsp
/-- a def of the text that may raise, as its callers see it -/
structure OwnX (P : Program) (w : World) (K : PySem.W.Frag) (mg : Str → Option Value) (base : Heap) (x : Str) (k : Nat) (ps : List Str) (dvs : List V) (sp : Sp) : Prop where
  ex : ∃ f fd ds, FnOk P w K mg base (L2.CX P w) k f fd ps sp ∧ mg x = some (.ref f) ∧ PySem.W.keepIn K (.ref f) = true ∧ Binds K fd ps ds ∧ Vals dvs ds
/-- an error of the text, as those who raise it see it -/
structure OwnE (P : Program) (w : World) (K : PySem.W.Frag) (mg : Str → Option Value) (base : Heap) (x : Str) (C : Addr) (k : Nat) (ps : List Str) (sp : Sp) : Prop where
  ex : ∃ fI fd, OexC K C ∧ PySem.W.findIn K (.ref C) "__init__" = some (some (.ref fI)) ∧ PySem.W.typeIn K (.ref fI) = some (.type "function") ∧ FnOk P w K mg base CX0 k fI fd ps sp ∧ Binds K fd ps [] ∧ mg x = some (.ref C)
section
variable {X : Cx} {x : Str} {k : Nat} {ps : List Str} {dvs : List V} {sp : Sp} {e : Expr} {es : List Expr} {t : TA} {p pos : Pos} {W : WX} {E : XK} {C : Addr}
theorem pe_ownX (O : OwnX X.prog X.w X.K X.mg X.base x k ps dvs sp) (hr : Room k X.A) (tk : Takes X W) (hW : ∀ cls d σ H, E cls d H → W cls d σ H) (hg : Gl X x) (ha : PA X (e :: es) t) (hdb : (x == ("__debug__" : Str)) = false := by decide) (he : starEach (e :: es) X.env = (false, eval e X.env) :: starEach es X.env := by rfl) (hpl : (backTo pos (starEach es X.env)).any (·.1) = false := by rfl) :
    PE X (.Call (.Name x p) (e :: es) [] pos) (tCall sp dvs E t) := by
  obtain ⟨f, fd, ds, F, hm, hk, hb, hd⟩ := O.ex
  exact pe_call F hr hg hm hk hb hd (passes_call tk hW) ha hdb he hpl
theorem pmk_E (O : OwnE X.prog X.w X.K X.mg X.base x C k ps sp) (hr : Room (k + 1) X.A) (hg : Gl X x) (ha : PA X (e :: es) t) (hdb : (x == ("__debug__" : Str)) = false := by decide) (he : starEach (e :: es) X.env = (false, eval e X.env) :: starEach es X.env := by rfl) (hpl : (backTo pos (starEach es X.env)).any (·.1) = false := by rfl) :
    PMk X (.Call (.Name x p) (e :: es) [] pos) (tMkO C sp [] t) := by
  obtain ⟨fI, fd, T, iC, tI, F, hb, hm⟩ := O.ex
  exact pmk_oex T iC tI F hr hb .nil (fun _ _ _ _ _ _ _ h => h.elim) hg hm ha hdb he hpl
/-! ### isinstance of the exception that a suite holds, its dict told -/
def rIsEd (K : PySem.W.Frag) (D a dd : Addr) : List V → Hp → VK → Prop := fun xs H Q => ∃ (c : V) (cv : Value) (b : Bool) (fs : List (Str × V)), xs = [.ref a, c] ∧ H dd = some (.xd fs) ∧ (∀ u, RelV c u → u = cv) ∧ PySem.W.kitOne K (.ref D) cv = some b ∧ Q (.bl b) H
theorem call_isEd {a D dd : Addr} {oe : Obj} {pn : List (Addr × Obj)} (C : ExcC X.K D) (hz : Zc (.ref D) (some dd) oe) (hf : ∃ vs, oe.data = .fields vs) : CallR (X.suite a ((a, oe) :: pn)) (.builtin "isinstance") (rIsEd X.K D a dd) := by
  intro pins s σ H xs us Q I r h
  obtain ⟨c, cv, b, fs, rfl, hdd, hcv, e, q⟩ := h
  cases r with
  | cons rx rr =>
    cases rr with
    | cons rt rr =>
      cases rr
      cases rx
      have ec := hcv _ rt
      subst ec
      obtain ⟨hget, _⟩ := I.pin (a, oe) (List.mem_append.mpr (.inl List.mem_cons_self))
      obtain ⟨vs, hv⟩ := hf
      have hx : ObjOk X.prog X.w H s.heap dd (.xd fs) := I.hok dd _ hdd
      obtain ⟨mA, hns, hr⟩ := hx
      obtain ⟨od, ho, hl⟩ := lookIn_ns hns
      have J : PySem.W.InstAt s.heap a oe D (some od) := ⟨hget, hz.1, by unfold PySem.W.notCls; rw [hv] <;> rfl, by rw [hz.2]; exact ho⟩
      obtain ⟨cdD, hcD, _⟩ := PySem.W.any_some C.hd
      exact PySem.W.kia_one (PySem.W.kitx_exc (by rw [hcD]; rfl) C.hg C.hk C.hs C.ha C.hn C.ht C.hm) I.kIn J e (fun z => nomatch z) fun tk => ⟨.bl b, H, I.kept (t' := tk) fun _ _ z => z, rfl, q⟩
end

/-! ### the error of texts -/
structure Err_BadText (K : PySem.W.Frag) (mg : Str → Option Value) (C : Addr) : Prop where
  oex : OexC K C
  mgC : mg "BadText" = some (.ref C)
  xf : XfC K C
  exc : ExcC K C
  iE : PySem.W.isClsIn K C = true
  sE : PySem.W.subIn K (.ref C) (.ref C) = some true
  n_line : PySem.W.findIn K (.ref C) "line" = some none
  n_reason : PySem.W.findIn K (.ref C) "reason" = some none
  n_found : PySem.W.findIn K (.ref C) "found" = some none
def ScE (a : V) : Prop := a = .non ∨ (∃ s : Str, a = .str s) ∨ (∃ i : Int, a = .int i) ∨ ∃ b : Bool, a = .bl b
section
variable {P : Program} {w : World} {K : PySem.W.Frag} {mg : Str → Option Value} {base : Heap}
def sp_held : Sp := fun vs H Q _ => ∃ a : V, vs = [a] ∧ ScE a ∧ ∀ H', Same H H' → Q a H'
theorem ok_held {f : Addr} {fd : FuncData} {dvs : List V} (F : Fn K "held" s_held dvs f fd) (m_dict : mg "dict" = none) (m_isinstance : mg "isinstance" = none) (m_list : mg "list" = none) (m_tuple : mg "tuple" = none) : FnOk P w K mg base CX0 1 f fd ["thing"] (sp_held) := by
  refine Fn.okN F sc_held (fun vs H Q E h => ?_) (fun cdv A outer s H vs Q E hr h => ?_)
  · obtain ⟨_, rfl, _⟩ := h
    rfl
  · obtain ⟨a, rfl, hs, k⟩ := h
    refine ⟨_, (pss_cons (ps_if (pt_val (pe_callB call_isiT (by rfl) m_isinstance (by decide +kernel) (pa_cons (pv 0) (pa_cons (pe_tup (pa_cons (pe_bltn (v := .ty "list") (by rfl) m_list (by decide +kernel) rfl) (pa_cons (pe_bltn (v := .ty "tuple") (by rfl) m_tuple (by decide +kernel) rfl) pa_nil))) pa_nil))))
          (pss_one ps_never)
          pss_nil)
      (pss_cons (ps_if (pt_val (pe_callB call_isi (by rfl) m_isinstance (by decide +kernel) (pa_cons (pv 0) (pa_cons (pe_bltn (v := .ty "dict") (by rfl) m_dict (by decide +kernel) rfl) pa_nil))))
          (pss_one ps_never)
          pss_nil)
      (pss_one (ps_ret (pv 0))))), ?_⟩
    obtain ⟨n1, ty, k1, k2, k3⟩ : ∃ n : String, (∀ H, TyX K H a (.type n)) ∧ PySem.W.kitOne K (.type n) (.type "list") = some false ∧ PySem.W.kitOne K (.type n) (.type "tuple") = some false ∧ PySem.W.kitOne K (.type n) (.type "dict") = some false := by
      rcases hs with rfl | ⟨s, rfl⟩ | ⟨i, rfl⟩ | ⟨c, rfl⟩
      · exact ⟨"NoneType", fun H => .base .non, kit_ty (by decide +kernel), kit_ty (by decide +kernel), kit_ty (by decide +kernel)⟩
      · exact ⟨"str", fun H => .base (.str s), kit_ty (by decide +kernel), kit_ty (by decide +kernel), kit_ty (by decide +kernel)⟩
      · exact ⟨"int", fun H => .base (.int i), kit_ty (by decide +kernel), kit_ty (by decide +kernel), kit_ty (by decide +kernel)⟩
      · exact ⟨"bool", fun H => .base (.bl c), kit_ty (by decide +kernel), kit_ty (by decide +kernel), kit_ty (by decide +kernel)⟩
    refine ⟨a, rfl, by show 2 ≤ sizeLine; decide, fun T nT => ?_⟩
    have sT := same_new (o := .tup [.ty "list", .ty "tuple"]) nT
    have tT : (upd H T (.tup [.ty "list", .ty "tuple"])) T = some (.tup [.ty "list", .ty "tuple"]) := upd_same
    generalize upd H T (.tup [.ty "list", .ty "tuple"]) = H1 at sT tT ⊢
    refine ⟨a, T, [.ty "list", .ty "tuple"], _, _, false, rfl, tT, .cons (.ty "list") (.cons (.ty "tuple") .nil), ty H1, kitAny_cons (b := false) k1 (fun _ => kitAny_cons (b := false) k2 (fun _ => kitAny_nil) (fun h => Bool.noConfusion h)) (fun h => Bool.noConfusion h), false, rfl, iteF ?_⟩
    exact ⟨a, rfl, _, _, _, _, false, rfl, .ty "dict", ty H1, k3, false, rfl, iteF ⟨a, rfl, k H1 sT⟩⟩
def sp_BadText_init (C : Addr) : Sp := fun vs H Q _ => ∃ (x : Addr) (n : Int) (r f : Str), vs = [.ref x, .int n, .str r, .str f] ∧ H x = some (exo x C none) ∧ ∀ (H' : Hp) (d : Addr), (∀ b o, H b = some o → b ≠ x → H' b = some o) → H d = none → d ≠ x → H' x = some (exo x C (some d)) → H' d = some (exd d [("found", .str f), ("reason", .str r), ("line", .int n)]) → Q .non H'
theorem ok_BadText_init {f : Addr} {fd : FuncData} {dvs : List V} {kws : List (Str × V)} (F : FunD K "__init__" "BadText.__init__" (defArgs s_BadText_init) (defBody s_BadText_init) (defScope s_BadText_init) dvs kws f fd) {C_BadText : Addr} (T_BadText : Err_BadText K mg C_BadText) (O_held : Own P w K mg base "held" 1 ["thing"] [] (sp_held)) : FnOk P w K mg base CX0 2 f fd ["self", "line", "reason", "found"] (sp_BadText_init C_BadText) := by
  refine FunD_okN F sc_BadText_init (fun vs H Q E h => ?_) (fun cdv A outer s H vs Q E hr h => ?_)
  · obtain ⟨_, _, _, _, rfl, _⟩ := h
    rfl
  · obtain ⟨x, n, r, f, rfl, hx, k⟩ := h
    refine ⟨_, (pss_cons (ps_ost (pv 0) (pe_own O_held (hr.mono (by decide)) (by rfl) (pa_cons (pv 1) pa_nil)) rfl)
      (pss_cons (ps_ost (pv 0) (pe_own O_held (hr.mono (by decide)) (by rfl) (pa_cons (pv 2) pa_nil)) rfl)
      (pss_one (ps_ost (pv 0) (pe_own O_held (hr.mono (by decide)) (by rfl) (pa_cons (pv 3) pa_nil)) rfl)))), ?_⟩
    refine ⟨.int n, rfl, .int n, rfl, .inr (.inr (.inl ⟨n, rfl⟩)), fun H1 s1 => ⟨.ref x, rfl, x, C_BadText, rfl, T_BadText.oex, T_BadText.n_line, .inl ⟨s1 _ _ hx, fun dx nd ne => ?_⟩⟩⟩
    have h2 : ∀ b o, H b = some o → b ≠ x → (upd (upd H1 dx (exd dx [("line", .int n)])) x (exo x C_BadText (some dx))) b = some o := fun b o e nb => by
      rw [upd_ne nb, upd_ne (ne_of_none (s1 _ _ e) nd)]
      exact s1 _ _ e
    have ex2 : (upd (upd H1 dx (exd dx [("line", .int n)])) x (exo x C_BadText (some dx))) x = some (exo x C_BadText (some dx)) := upd_same
    have ed2 : (upd (upd H1 dx (exd dx [("line", .int n)])) x (exo x C_BadText (some dx))) dx = some (exd dx [("line", .int n)]) := by
      rw [upd_ne ne]
      exact upd_same
    have ndH : H dx = none := s1.free nd
    generalize upd (upd H1 dx (exd dx [("line", .int n)])) x (exo x C_BadText (some dx)) = H2 at h2 ex2 ed2 ⊢
    refine ⟨.str r, rfl, .str r, rfl, .inr (.inl ⟨r, rfl⟩), fun H3 s3 => ⟨.ref x, rfl, x, C_BadText, rfl, T_BadText.oex, T_BadText.n_reason, .inr ⟨dx, _, s3 _ _ ex2, s3 _ _ ed2, by show 1 ≤ 900; decide, ?_⟩⟩⟩
    have h4 : ∀ b o, H b = some o → b ≠ x → (upd H3 dx (exd dx [("reason", .str r), ("line", .int n)])) b = some o := fun b o e nb => by
      rw [upd_ne (ne_of_none e ndH)]
      exact s3 _ _ (h2 _ _ e nb)
    have ex4 : (upd H3 dx (exd dx [("reason", .str r), ("line", .int n)])) x = some (exo x C_BadText (some dx)) := by
      rw [upd_ne ne.symm]
      exact s3 _ _ ex2
    have ed4 : (upd H3 dx (exd dx [("reason", .str r), ("line", .int n)])) dx = some (exd dx [("reason", .str r), ("line", .int n)]) := upd_same
    generalize upd H3 dx (exd dx [("reason", .str r), ("line", .int n)]) = H4 at h4 ex4 ed4 ⊢
    refine ⟨.str f, rfl, .str f, rfl, .inr (.inl ⟨f, rfl⟩), fun H5 s5 => ⟨.ref x, rfl, x, C_BadText, rfl, T_BadText.oex, T_BadText.n_found, .inr ⟨dx, _, s5 _ _ ex4, s5 _ _ ed4, by show 2 ≤ 900; decide, ?_⟩⟩⟩
    refine k _ dx (fun b o e nb => ?_) ndH ne ?_ upd_same
    · rw [upd_ne (ne_of_none e ndH)]
      exact s5 _ _ (h4 _ _ e nb)
    · rw [upd_ne ne.symm]
      exact s5 _ _ ex4
end

/-! ### lines, kept and bare -/
theorem kit_self (K : PySem.W.Frag) (C : Addr) : PySem.W.kitOne K (.ref C) (.ref C) = some true := by
  unfold PySem.W.kitOne
  exact if_pos (by first | exact beq_self_eq_true _ | (show (C == C) = true; exact beq_self_eq_true C))
theorem bnd_items {K : PySem.W.Frag} {s : Shared} {fd : FuncData} {args : Args} {binds : List (Str × Value)} {T : Addr} {o : Obj} {its : Array Value} {n : Nat} (X : K.In s.heap) (lT : K.lookup T = some o) (oT : o.data = .seq its n) (h : ∃ k, bindArgs fd args = seqItems? (.ref T) >>= k ∧ k (some its) = pure binds) : BindsTo s fd args binds := L2.BindsTo.of_looks fun M => by
  obtain ⟨k, e1, e2⟩ := h
  rw [e1]
  exact looks_items X lT oT (PySem.W.Looks.of_pure e2)
def rowsV (ws : List (List Nat)) : HO := .lst ((ws.map mk).map V.str)
def ifAny (last : List Nat) : List (List Nat) := if last.isEmpty = true then [] else [last]
def keptOf (init : List (List Nat)) (last : List Nat) : List (List Nat) := init.map (· ++ [10]) ++ ifAny last
def rowsOf (init : List (List Nat)) (last : List Nat) : List (List Nat) := init ++ ifAny last
def bg (x y : Str) : Bool := Txt.startswith (Txt.lstripChars x " ") y
def X0 : List Nat := [62, 62, 62, 32, 120]
def wordS : List Nat → Bool
  | [] => false
  | c :: _ => c == 95 || Txt.isalnum ⟨#[c]⟩
def isHead (h : List Nat) : Bool := inV (.str (Txt.rstripChars (mk h) " ")) (v_HEADERS.map V.str)
def noNl (l : List Nat) : List Nat := tl (Txt.removesuffix (mk l) "\n")
def flatO : List (List Nat) → Option (List Nat)
  | [] => none
  | d => some (joinL [] d)
def errP : List (List Nat) → Option (List Nat)
  | [] => none
  | h :: r => if isHead (noNl h) = true then flatO (r.dropWhile fun l => !wordS l) else none
def errL : List (List Nat) → Option (List Nat)
  | [] => none
  | h :: r => if isHead h = true then flatO ((r.dropWhile fun l => !wordS l).map (· ++ [10])) else none
def optV : Option (List Nat) → V
  | none => .non
  | some l => .str (mk l)
theorem ten_eq : ("\n" : Str) = ⟨#[10]⟩ := ext_tl (by decide +kernel)
theorem noNl_fed (l : List Nat) : noNl (l ++ [10]) = l := by
  have k := (StrLaws.subAt_one (mk (l ++ [10])) 10 l.length).mpr (by
    show (l ++ [10])[l.length]? = some 10
    rw [List.getElem?_append_right (Nat.le_refl _), Nat.sub_self]
    rfl)
  have hl : (mk (l ++ [10])).length = l.length + 1 := by rw [mk_len, List.length_append]; rfl
  have l1 : (⟨#[10]⟩ : Str).length = 1 := rfl
  unfold noNl Txt.removesuffix
  rw [ten_eq, hl, l1, Nat.add_sub_cancel, k.2, Bool.and_true, decide_eq_true (by omega), if_pos rfl]
  unfold Txt.affix
  dsimp only
  rw [hl, Nat.sub_zero, show (l.length == l.length + 1) = false by rw [beq_eq_false_iff_ne]; omega, if_neg Bool.false_ne_true]
  rw [tl_strSub, List.drop_zero, Nat.sub_zero]
  show (l ++ [10]).take l.length = l
  rw [List.take_left]
theorem find3_none {x : Str} (h : (35 : Nat) ∉ tl x) (i : Int) : Txt.find3 x "#" i = -1 := by
  have e : ("#" : Str) = ⟨#[35]⟩ := ext_tl (by decide +kernel)
  unfold Txt.find3
  rcases StrLaws.occ_head_from x "#" (fromIndex x.length i) 1 (Nat.le_refl _) with ⟨h0, _⟩ | ⟨j, r, h0, _, hj, _⟩
  · rw [h0]
  · rw [e] at hj
    exact absurd (List.mem_of_getElem? (show (tl x)[j]? = some 35 from (StrLaws.subAt_one x 35 j).mp hj)) h
theorem kept_ne (init : List (List Nat)) (last : List Nat) : ∀ l ∈ keptOf init last, l ≠ [] := fun l hl => by
  rcases List.mem_append.mp hl with h | h
  · obtain ⟨l', _, rfl⟩ := List.mem_map.mp h
    simp
  · unfold ifAny at h
    cases last with
    | nil => cases h
    | cons c r =>
      rw [List.mem_singleton.mp h]
      simp
theorem sum_fed : ∀ ls : List (List Nat), ((ls.map (· ++ [10])).map (·.length)).sum = (ls.map (·.length)).sum + ls.length
  | [] => rfl
  | l :: r => by
    have ih := sum_fed r
    rw [List.map_cons, List.map_cons, List.map_cons, List.sum_cons, List.sum_cons, ih, List.length_append, List.length_cons (a := l) (as := r)]
    show l.length + 1 + _ = _
    omega
theorem kept_sum (init : List (List Nat)) (last : List Nat) : ((keptOf init last).map (·.length)).sum ≤ (joinL [10] (init ++ [last])).length := by
  have a := joinL_len [10] (ps := init ++ [last]) (by simp)
  have e1 : ([10] : List Nat).length = 1 := rfl
  rw [e1, List.map_append, List.sum_append, List.length_append] at a
  have c : ([last].map (·.length)).sum = last.length := by
    show last.length + 0 = _
    omega
  rw [c] at a
  have e2 : [last].length = 1 := rfl
  rw [e2] at a
  unfold keptOf ifAny
  rw [List.map_append, List.sum_append, sum_fed]
  split
  · show _ + 0 ≤ _
    omega
  · rw [c]
    omega
theorem drop_sum : ∀ (ws : List (List Nat)) (k : Nat), ((ws.drop k).map (·.length)).sum ≤ (ws.map (·.length)).sum
  | [], k => by
    rw [List.drop_nil]
    exact Nat.le_refl _
  | w :: r, 0 => Nat.le_refl _
  | w :: r, k + 1 => by
    have ih := drop_sum r k
    rw [List.drop_succ_cons, List.map_cons, List.sum_cons]
    omega
theorem cutV_drop (xs : List V) (k : Nat) (h : k ≤ xs.length) : cutV xs (some (k : Int)) none = xs.drop k := by
  unfold cutV
  rw [HT.sIx_nat, HT.sIx_none, Nat.min_eq_left h]
  exact List.take_of_length_le (by rw [List.length_drop]; omega)
theorem dropWhile_at {p : List Nat → Bool} : ∀ {r : List (List Nat)} {i : Nat} {l : List Nat}, r[i]? = some l → p l = false → (∀ j l', j < i → r[j]? = some l' → p l' = true) → r.dropWhile p = r.drop i
  | [], i, l, h, _, _ => by cases h
  | a :: r, 0, l, h, hp, _ => by
    cases h
    rw [List.dropWhile_cons, hp]
    rfl
  | a :: r, i + 1, l, h, hp, ha => by
    rw [List.dropWhile_cons, ha 0 a (Nat.zero_lt_succ _) rfl]
    show r.dropWhile p = r.drop i
    exact dropWhile_at h hp fun j l' hj hl => ha (j + 1) l' (Nat.succ_lt_succ hj) hl
theorem dropWhile_none {p : List Nat → Bool} : ∀ {r : List (List Nat)}, (∀ l ∈ r, p l = true) → r.dropWhile p = []
  | [], _ => rfl
  | a :: r, h => by
    rw [List.dropWhile_cons, h a (List.mem_cons_self ..)]
    exact dropWhile_none fun l hl => h l (List.mem_cons_of_mem _ hl)
theorem us_dec (c : Nat) : decide (V.str ⟨#[c]⟩ = V.str "_") = (c == 95) := by
  have e : ("_" : Str) = ⟨#[95]⟩ := ext_tl (by decide +kernel)
  rw [e, Bool.eq_iff_iff, decide_eq_true_iff, beq_iff_eq]
  constructor
  · intro h
    exact List.head_eq_of_cons_eq (congrArg (fun v => match v with | V.str y => tl y | _ => []) h)
  · rintro rfl
    rfl
theorem noNl_free {l : List Nat} (h : (10 : Nat) ∉ l) : noNl l = l := by
  have l1 : (⟨#[10]⟩ : Str).length = 1 := rfl
  unfold noNl Txt.removesuffix
  rw [ten_eq, l1]
  cases hb : (decide (1 ≤ (mk l).length) && Builtin.Str.subAt (mk l) ⟨#[10]⟩ ((mk l).length - 1)) with
  | false =>
    rw [if_neg Bool.false_ne_true]
    rfl
  | true =>
    rw [Bool.and_eq_true, decide_eq_true_eq] at hb
    have k := (StrLaws.subAt_one (mk l) 10 ((mk l).length - 1)).mp ⟨by rw [l1]; omega, hb.2⟩
    exact absurd (List.mem_of_getElem? (show l[_]? = some 10 from k)) h
theorem starts_empty (x : Str) : Txt.startswith x "" = true := by
  have e : ("" : Str) = ⟨#[]⟩ := ext_tl (by decide +kernel)
  unfold Txt.startswith
  rw [e, Nat.zero_add, StrLaws.subAt_eq, List.drop_zero]
  show (decide (0 ≤ x.length) && ((tl x).take 0 == [])) = true
  rw [decide_eq_true (Nat.zero_le _), List.take_zero]
  rfl
theorem ends_ten (l : List Nat) : Txt.endswith (mk (l ++ [10])) "\n" = true := by
  have k := (StrLaws.subAt_one (mk (l ++ [10])) 10 l.length).mpr (by
    show (l ++ [10])[l.length]? = some 10
    rw [List.getElem?_append_right (Nat.le_refl _), Nat.sub_self]
    rfl)
  have hl : (mk (l ++ [10])).length = l.length + 1 := by rw [mk_len, List.length_append]; rfl
  have l1 : (⟨#[10]⟩ : Str).length = 1 := rfl
  unfold Txt.endswith
  rw [ten_eq, hl, l1, Nat.add_sub_cancel, k.2, Bool.and_true, decide_eq_true (by omega)]
theorem joinL_more (S a : List Nat) {ps : List (List Nat)} (h : ps ≠ []) : joinL S (a :: ps) = a ++ (S ++ joinL S ps) := by
  cases ps with
  | nil => exact absurd rfl h
  | cons b r => rfl
theorem joinL_flat (a : List Nat) (r : List (List Nat)) : joinL [] (a :: r) = a ++ joinL [] r := by
  cases r with
  | nil =>
    show a = a ++ []
    rw [List.append_nil]
  | cons b r => rfl
theorem join_ten : ∀ ls : List (List Nat), joinL [10] (ls ++ [[]]) = joinL [] (ls.map (· ++ [10]))
  | [] => rfl
  | a :: r => by
    rw [List.cons_append, joinL_more _ _ (by simp), join_ten r, List.map_cons, joinL_flat, List.append_assoc]
theorem flat_ten : ∀ ls : List (List Nat), ls ≠ [] → ∃ m, joinL [] (ls.map (· ++ [10])) = m ++ [10]
  | [], h => absurd rfl h
  | [a], _ => ⟨a, rfl⟩
  | a :: b :: r, _ => by
    obtain ⟨m, e⟩ := flat_ten (b :: r) (by simp)
    rw [List.map_cons, joinL_flat, e]
    exact ⟨(a ++ [10]) ++ m, (List.append_assoc ..).symm⟩
theorem flat_len (ls : List (List Nat)) : (joinL [] (ls.map (· ++ [10]))).length = (ls.map (·.length)).sum + ls.length := by
  rw [← sum_fed]
  generalize ls.map (· ++ [10]) = k
  induction k with
  | nil => rfl
  | cons a r ih => rw [joinL_flat, List.length_append, ih, List.map_cons, List.sum_cons]
theorem err_ten (ls : List (List Nat)) : optV (errP (ls.map (· ++ [10]))) = .non ∨ ∃ e : Str, optV (errP (ls.map (· ++ [10]))) = .str e ∧ Txt.endswith e "\n" = true := by
  cases ls with
  | nil => exact .inl rfl
  | cons h r =>
    unfold errP
    rw [List.map_cons]
    dsimp only
    split
    · rw [List.dropWhile_map]
      generalize r.dropWhile _ = z
      cases z with
      | nil => exact .inl rfl
      | cons a b =>
        obtain ⟨m, e⟩ := flat_ten (a :: b) (by simp)
        refine .inr ⟨mk (joinL [] ((a :: b).map (· ++ [10]))), rfl, ?_⟩
        rw [e]
        exact ends_ten m
    · exact .inl rfl
theorem cutV_seg (xs : List V) (a b : Nat) (h1 : a ≤ b) (h2 : b ≤ xs.length) : cutV xs (some (a : Int)) (some (b : Int)) = (xs.drop a).take (b - a) := by
  unfold cutV
  rw [HT.sIx_nat, HT.sIx_nat, Nat.min_eq_left h2, Nat.min_eq_left (Nat.le_trans h1 h2)]
theorem le_sum {l : List Nat} : ∀ {ls : List (List Nat)}, l ∈ ls → l.length ≤ (ls.map (·.length)).sum
  | a :: r, h => by
    rw [List.map_cons, List.sum_cons]
    rcases List.mem_cons.mp h with rfl | h
    · omega
    · have := le_sum h
      omega
theorem rsuf_len (x y : Str) : (Txt.removesuffix x y).length ≤ x.length := by
  unfold Txt.removesuffix
  split
  · unfold Txt.affix
    dsimp only
    split
    · exact Nat.le_refl _
    · rw [len_tl, len_tl, tl_strSub, List.length_take, List.length_drop]
      omega
  · exact Nat.le_refl _
theorem ite_er {k : Bool} {er : V} {σ : L2.St} {H : Hp} {Q : VK} {u : TE} (c : Q er H) (ha : k = true → er = .non) (b : k = false → ∀ e : Str, er = .str e → Txt.endswith e "\n" = true → Q (.str e) H → u σ H Q) (hb : k = false → ∃ e : Str, er = .str e ∧ Txt.endswith e "\n" = true) : if k = true then tC .non σ H Q else u σ H Q := by
  cases k with
  | true =>
    rw [ha rfl] at c
    exact iteT c
  | false =>
    obtain ⟨e, e1, e2⟩ := hb rfl
    refine iteF (b rfl e e1 e2 ?_)
    rw [← e1]
    exact c
theorem ite_same {k : Bool} {A B C : Prop} (c : C) (a : k = true → C → A) (b : k = false → C → B) : if k = true then A else B := by
  cases k with
  | true => exact iteT (a rfl c)
  | false => exact iteF (b rfl c)
def Out (x : Addr) (H H' : Hp) : Prop := ∀ b o, H b = some o → b ≠ x → H' b = some o
theorem Out.same {x : Addr} {H H1 H2 : Hp} (a : Out x H H1) (s : Same H1 H2) : Out x H H2 := fun b o e n => s _ _ (a b o e n)
theorem Out.put {x : Addr} {o' : HO} {H H1 : Hp} (a : Out x H H1) : Out x H (upd H1 x o') := fun b o e n => by
  rw [upd_ne n]
  exact a b o e n
theorem put_len {f : Str} {v : V} {fs : List (Str × V)} {n : Nat} (h : fs.length ≤ n) : (putF f v fs).length ≤ n + 1 := Nat.le_trans (length_putF f v fs) (Nat.succ_le_succ h)
/-! ### what gives a token out; words -/
section
theorem pi_listK {X : Cx} {K' : PySem.W.Frag} (hK : X.K = K') {tg l : Expr} {tl : TE} (hl : PE X l tl) : PI X tg l (iList K' tl) := by
  subst hK
  exact pi_list hl
variable {X : Cx} {a o : Expr} {ta to : TE} {pos : Pos}
theorem ek_ix {r : R2} {n : Int} {j : Nat} {pos' : Pos} (hr : IxR X r) (ha : PE X a ta) (hs : PlainIx (.Constant (.int n) j pos')) : EK X (.Subscript a (.Constant (.int n) j pos') pos) (tOp r ta (tC (.int n))) := by
  refine ⟨fun pins s σ H Q I h => Subscript_ (thn (ha.run pins s σ H _ I h) fun v s1 ⟨x, H1, I1, r1, q1⟩ => wpAny_Constant_int (thnK (Nat.le_add_left 1 _) (hr a _ pins _ σ H1 x (.int n) v _ _ (I1.tok _) r1 ⟨_, rfl⟩ q1 (hs _ _)) fun w s3 k3 q => ⟨k3, q⟩))⟩
theorem pe_replK {y z : Str} {j0 j1 : Nat} {c0 c1 apos pos : Pos} (ho : EK X o to) (hyz : (y == z) = false) (hst : starEach [.Constant (.str y) j0 c0, .Constant (.str z) j1 c1] X.env = [(false, eval (.Constant (.str y) j0 c0) X.env), (false, eval (.Constant (.str z) j1 c1) X.env)] := by rfl)
    (hbase : attributeBase o "replace" X.env (eval o X.env) = eval o X.env := by rfl) (hline : (apos.endLine == pos.line) = true := by rfl) :
    PE X (.Call (.Attribute o "replace" apos) [.Constant (.str y) j0 c0, .Constant (.str z) j1 c1] [] pos) (tRepl y z to) := by
  refine ⟨fun pins s σ H Q I h => ?_⟩
  refine PySem.Call_method2 hbase hst hline (thn (ho.run pins s σ H _ I h) fun v s1 ⟨k1, x, H1, I1, r1, a, ex, hb, q⟩ => ?_)
  subst ex
  obtain ⟨tx, rfl⟩ := r1
  refine ⟨"str", _, PySem.F.plainAttrs_str, PySem.F.slot_str_replace, PySem.F.type_str_replace, typeIs_str _ _ _, (fun _ e => nomatch e), Calls.callWith_builtin rfl (Calls.evalArgs_plain (Calls.spliced_cons (Calls.Constant_str (Calls.spliced_cons (Calls.Constant_str (Calls.spliced_nil ?_))))))⟩
  exact PySem.SC.replace (show s1.toks ≠ 0 by omega) (show s1.toks + 1 ≠ 0 by omega) (show s1.toks ≠ s1.toks + 1 by omega) hyz hb fun t' k => ⟨.str (Txt.replace a y z), H1, I1.tok k, ⟨t', rfl⟩, q⟩
end
theorem occ_absent {x : Str} {c : Nat} (h : c ∉ tl x) : (Builtin.Str.occurrences x ⟨#[c]⟩ 0 x.length (x.length + 1)).isEmpty = true := by
  rcases StrLaws.occ_head x ⟨#[c]⟩ (x.length + 1) (by omega) with ⟨e, _⟩ | ⟨i, r, _, at_, _⟩
  · rw [e]
    rfl
  · exfalso
    have k := (StrLaws.subAt_one x c i).mp at_
    exact h (List.mem_of_getElem? (show (tl x)[i]? = some c from k))
theorem split_sizes (x : Str) {y : List Nat} (hy : y ≠ []) (h : y.all (· < 256) = true) : ((Txt.split x ⟨y.toArray⟩).map (·.length)).sum ≤ x.length ∧ (Txt.split x ⟨y.toArray⟩).length ≤ x.length + 1 := by
  have e := splitOf x hy h
  have s := spl_sizes (tl x) hy h
  rw [← e, List.map_map, List.length_map, ← len_tl] at s
  have e2 : (List.length ∘ tl) = fun z : Str => z.length := by
    funext z
    exact (len_tl z).symm
  rw [e2] at s
  exact s
theorem split_mem (x : Str) {y : List Nat} (hy : y ≠ []) (h : y.all (· < 256) = true) {z : Str} (hz : z ∈ Txt.split x ⟨y.toArray⟩) : z.length ≤ x.length := by
  have s := (split_sizes x hy h).1
  have : ∀ (l : List Str), z ∈ l → z.length ≤ (l.map (·.length)).sum := by
    intro l
    induction l with
    | nil => intro h; cases h
    | cons a r ih =>
      intro h
      rw [List.map_cons, List.sum_cons]
      rcases List.mem_cons.mp h with e | e
      · rw [e]
        omega
      · have := ih e
        omega
  have := this _ hz
  omega
theorem replL_one (c d : Nat) : ∀ l : List Nat, StrLaws.replL [c] [d] l = l.map fun e => if e == c then d else e
  | [] => by rw [StrLaws.replL_nil]; rfl
  | e :: r => by
    have ih := replL_one c d r
    unfold StrLaws.replL at ih ⊢
    unfold StrLaws.replS
    rw [List.map_cons, ← ih]
    by_cases h : e = c
    · subst h
      rw [if_pos (show List.take [e].length (e :: r) = [e] from rfl), beq_self_eq_true]
      rfl
    · rw [if_neg (by simpa using h), beq_eq_false_iff_ne.mpr h]
      rfl
theorem replace_map (x : Str) (c d : Nat) : tl (Txt.replace x ⟨[c].toArray⟩ ⟨[d].toArray⟩) = (tl x).map fun e => if e == c then d else e := by
  have h := StrLaws.replace_list (x := x) (y := ⟨[c].toArray⟩) (z := ⟨[d].toArray⟩) (Nat.le_refl _)
  show (Txt.replace x ⟨[c].toArray⟩ ⟨[d].toArray⟩).cps.toList = _
  rw [h]
  exact replL_one c d (tl x)
def full (z : Str) : Bool := !(tl z).isEmpty
theorem full_len (z : Str) : ((z.length : Int) != 0) = full z := by
  unfold full
  rw [len_tl, emptyEq]
  rw [Bool.eq_iff_iff]
  simp
/-- what stands behind the first colon -/
def behindC (y : Str) : Str := (Txt.partition y ":").2.2
def sgSub (a b : Str) : Prop := ∀ c ∈ tl a, c ∈ tl b
theorem strSub_sub (x : Str) (i j : Nat) : sgSub (Builtin.Str.strSub x i j) x := fun c hc => by
  rw [tl_strSub] at hc
  exact List.mem_of_mem_drop (List.mem_of_mem_take hc)
theorem behind_sub (y : Str) : sgSub (behindC y) y ∧ (behindC y).length ≤ y.length := by
  unfold behindC Txt.partition
  split
  · refine ⟨strSub_sub _ _ _, ?_⟩
    rw [len_tl, tl_strSub, List.length_take, List.length_drop, ← len_tl]
    omega
  · exact ⟨fun c hc => (by cases hc), Nat.zero_le _⟩
theorem cut_sub (x : Str) (a b : Option Int) : sgSub (cutS x a b) x ∧ (cutS x a b).length ≤ x.length := by
  refine ⟨fun c hc => ?_, ?_⟩
  · have h : c ∈ ((tl x).drop (HT.sIx x.length 0 a)).take (HT.sIx x.length x.length b - HT.sIx x.length 0 a) := hc
    exact List.mem_of_mem_drop (List.mem_of_mem_take h)
  · show (cutS x a b).length ≤ _
    rw [len_tl]
    show (((tl x).drop (HT.sIx x.length 0 a)).take (HT.sIx x.length x.length b - HT.sIx x.length 0 a)).length ≤ _
    rw [List.length_take, List.length_drop, ← len_tl]
    omega
def wordsS (x : Str) : List Str := (Txt.split x " ").filter full
theorem cut_one (l : List Nat) : cutS (mk l) none (some (1 : Int)) = mk (l.take 1) := by
  refine ext_tl ?_
  show (l.drop (HT.sIx (mk l).length 0 none)).take (HT.sIx (mk l).length (mk l).length (some ((1 : Nat) : Int)) - HT.sIx (mk l).length 0 none) = l.take 1
  rw [HT.sIx_none, HT.sIx_nat, List.drop_zero, Nat.sub_zero, mk_len]
  cases l with
  | nil => rfl
  | cons c r =>
    rw [List.length_cons, Nat.min_eq_left (by omega)]
section
variable {P : Program} {w : World} {K : PySem.W.Frag} {mg : Str → Option Value} {base : Heap}
def Rows10 (ls : List (List Nat)) : Prop := ∀ l ∈ ls, (10 : Nat) ∉ l
def sp_kept_lines : Sp := fun vs H Q _ => ∃ (x : Str) (init : List (List Nat)) (last : List Nat), vs = [.str x] ∧ tl x = joinL [10] (init ++ [last]) ∧ Rows10 (init ++ [last]) ∧ x.length ≤ 10000 ∧
  ∀ (H' : Hp) (p : Addr), Same H H' → H p = none → H' p = some (rowsV (keptOf init last)) → Q (.ref p) H'
theorem ok_kept_lines {f : Addr} {fd : FuncData} {dvs : List V} (F : Fn K "kept_lines" s_kept_lines dvs f fd) : FnOk P w K mg base CX0 1 f fd ["text"] (sp_kept_lines) := by
  refine Fn.okN F sc_kept_lines (fun vs H Q E h => ?_) (fun cdv A outer s H vs Q E hr h => ?_)
  · obtain ⟨_, _, _, rfl, _⟩ := h
    rfl
  · obtain ⟨x, init, last, rfl, ex, h10, hx, k⟩ := h
    refine ⟨_, (pss_cons (ps_asg (pe_m1 PySem.F.slot_str_split PySem.F.type_str_split mt_split (pv 0) pe_str) (pg_star rfl (pgs_cons (pg_name (i := 1) sc_kept_lines.nd rfl (.inl rfl)) (pgs_cons (pg_name (i := 2) sc_kept_lines.nd rfl (.inl rfl)) pgs_nil))))
      (pss_cons (ps_setLc (i := 3) (own := [("line", 4)]) (g := gName 4) (tt := tYes) (by rfl) sc_kept_lines.nd rfl rfl (sw_true rfl rfl rfl (by decide +kernel)) (pi_list (pv 1)) (blkOk_by (own := [("line", 4)]) (N := ["text", "lines", "rest", "kept", "line"]) (sc := defScope s_kept_lines) (by decide +kernel)) (fun _ _ _ _ _ => (pg_name (i := 4) sc_kept_lines.nd rfl (.inl rfl))) (fun _ _ _ _ _ => pts_nil) (fun _ _ _ _ _ => (pe_op op_add_str (pv 4) pe_str)))
      (pss_one (ps_ret (pe_ifExp (pt_tr (K' := K) (pv 2)) (pe_op op_cat (pv 3) (pe_lst (pa_cons (pv 2) pa_nil))) (pv 3)))))), ?_⟩
    have lt : (tl x).length ≤ 10000 := by rw [← len_tl]; exact hx
    have jp := join_parts (init ++ [last])
    rw [← ex, List.length_append] at jp
    have l1 : ("\n" : Str).length = 1 := rfl
    have hil : ∀ l ∈ init, l.length ≤ 10000 := fun l hl => Nat.le_trans (jp.2 l (List.mem_append_left _ hl)) lt
    have hin : init.length ≤ 10001 := by omega
    refine ⟨.str x, rfl, ⟨_, rfl⟩, x, "\n", rfl, rfl, by decide +kernel, line_of (by omega), fun p np => ?_⟩
    rw [split_join ex (by simp) h10]
    have sp := same_new (o := .lst (((init ++ [last]).map mk).map V.str)) np
    refine ⟨p, (init.map mk).map V.str, .str (mk last), rfl, SqL.of ?_, by rw [List.length_map, List.length_map]; omega, fun D nD => ⟨.ref D, _, rfl, .str (mk last), _, rfl, rfl, ?_⟩⟩
    · rw [upd_same, List.map_append, List.map_append]
      rfl
    have sD := same_new (o := .lst ((init.map mk).map V.str)) nD
    have eD : (upd (upd H p (.lst (((init ++ [last]).map mk).map V.str))) D (.lst ((init.map mk).map V.str))) D = some (.lst ((init.map mk).map V.str)) := upd_same
    generalize upd (upd H p (.lst (((init ++ [last]).map mk).map V.str))) D (.lst ((init.map mk).map V.str)) = H1 at sD eD ⊢
    have s1 : Same H H1 := sp.trans sD
    refine ⟨.ref D, rfl, D, rfl, ⟨_, SqL.of eD⟩, fun L nL => lc_list (K := K) (a := D) (xs := (init.map mk).map V.str) (fun i H2 => H2 L = some (rowsV ((init.take i).map (· ++ [10]))) ∧ Same H1 H2) ⟨upd_same, same_new nL⟩ (fun i H2 _ h => SqL.of (h.2 _ _ eD)) ?_ ?_⟩
    · rintro i v H2 hv ⟨eL, s2⟩
      obtain ⟨z, rfl, hz⟩ := str_at hv
      rw [List.getElem?_map] at hz
      obtain ⟨l, hl, rfl⟩ := Option.map_eq_some_iff.mp hz
      have gl := hil l (List.mem_of_getElem? hl)
      have hi : i < init.length := (List.getElem?_eq_some_iff.mp hl).1
      refine ⟨rfl, ?_⟩
      unfold tYes
      show ite (true = true) _ _
      rw [if_pos rfl]
      refine ⟨.str (mk l), rfl, _, _, rfl, rfl, line_of (by rw [mk_len, l1]; omega), _, eL, ?_, ?_, fun b o e => ?_⟩
      · rw [List.length_map, List.length_map, List.length_map, List.length_take]
        exact Nat.lt_of_le_of_lt (show min i init.length ≤ 10001 by omega) (by decide)
      · rw [upd_same, List.take_add_one, hl, List.map_append]
        unfold rowsV
        rw [List.map_append, List.map_append]
        exact congrArg (fun v => some (HO.lst ((((init.take i).map (· ++ [10])).map mk).map V.str ++ [v]))) (congrArg V.str (ext_tl (by rw [tl_append]; rfl)))
      · rw [upd_ne (ne_of_none e nL)]
        exact s2 b o e
    rintro H2 ⟨eL, s2⟩
    rw [List.length_map, List.length_map, List.take_length] at eL
    have nL0 : H L = none := s1.free nL
    refine ⟨.str (mk last), rfl, _, ⟨line_of (show (mk last).length ≤ 1000000 by rw [mk_len]; exact Nat.le_trans (jp.2 last (List.mem_append_right _ (List.mem_singleton.mpr rfl))) (by omega)), rfl⟩, ?_⟩
    unfold keptOf ifAny at k
    cases last with
    | nil =>
      refine iteF ⟨.ref L, rfl, k _ L (s1.trans s2) nL0 ?_⟩
      show H2 L = some (rowsV (init.map (· ++ [10]) ++ []))
      rw [List.append_nil]
      exact eL
    | cons c r =>
      rw [show (((mk (c :: r)).length : Int) != 0) = true by rw [mk_len, bne_iff_ne, List.length_cons]; omega]
      refine iteT ⟨.ref L, rfl, .str (mk (c :: r)), rfl, by show 1 ≤ sizeLine; decide, fun M nM => ⟨L, M, _, _, rfl, rfl, same_new nM _ _ eL, upd_same, ?_, fun q nq => ?_⟩⟩
      · rw [List.length_map, List.length_map, List.length_map]
        exact Nat.le_trans (show init.length + 1 ≤ 10002 by omega) (by decide)
      · refine k _ q (s1.trans (s2.trans ((same_new nM).trans (same_new nq)))) ((s1.trans (s2.trans (same_new nM))).free nq) ?_
        rw [upd_same]
        unfold rowsV
        rw [List.map_append, List.map_append]
        rfl
def sp_lines_of : Sp := fun vs H Q _ => ∃ (x : Str) (init : List (List Nat)) (last : List Nat), vs = [.str x] ∧ tl x = joinL [10] (init ++ [last]) ∧ Rows10 (init ++ [last]) ∧ x.length ≤ 10000 ∧
  ∀ (H' : Hp) (p : Addr), Same H H' → H p = none → H' p = some (rowsV (rowsOf init last)) → Q (.ref p) H'
theorem ok_lines_of {f : Addr} {fd : FuncData} {dvs : List V} (F : Fn K "lines_of" s_lines_of dvs f fd) (O_kept_lines : Own P w K mg base "kept_lines" 1 ["text"] [] (sp_kept_lines)) : FnOk P w K mg base CX0 2 f fd ["text"] (sp_lines_of) := by
  refine Fn.okN F sc_lines_of (fun vs H Q E h => ?_) (fun cdv A outer s H vs Q E hr h => ?_)
  · obtain ⟨_, _, _, rfl, _⟩ := h
    rfl
  · obtain ⟨x, init, last, rfl, ex, h10, hx, k⟩ := h
    refine ⟨_, (pss_one (ps_ret (pe_lc (own := [("line", 1)]) (g := gName 1) (tt := tYes) (by rfl) sc_lines_of.nd (pi_list (pe_own O_kept_lines (hr.mono (by decide)) (by rfl) (pa_cons (pv 0) pa_nil))) (blkOk_by (own := [("line", 1)]) (N := ["text", "line"]) (sc := defScope s_lines_of) (by decide +kernel)) (fun _ _ _ _ _ => (pg_name (i := 1) sc_lines_of.nd rfl (.inl rfl))) (fun _ _ _ _ _ => pts_nil) (fun _ _ _ _ _ => (pe_m1 PySem.F.slot_str_removesuffix PySem.F.type_str_removesuffix mt_removesuffix (pv 1) pe_str))))), ?_⟩
    have lt : (tl x).length ≤ 10000 := by rw [← len_tl]; exact hx
    have jp := join_parts (init ++ [last])
    rw [← ex, List.length_append] at jp
    have kb : ∀ l ∈ keptOf init last, l.length ≤ 10001 := fun l hl => by
      rcases List.mem_append.mp hl with h | h
      · obtain ⟨l', h', rfl⟩ := List.mem_map.mp h
        have := jp.2 l' (List.mem_append_left _ h')
        rw [List.length_append]
        show _ + 1 ≤ _
        omega
      · have : l = last := by
          unfold ifAny at h
          split at h
          · cases h
          · exact List.mem_singleton.mp h
        have := jp.2 last (List.mem_append_right _ (List.mem_singleton.mpr rfl))
        rw [‹l = last›]
        omega
    have kn : (keptOf init last).length ≤ 10002 := by
      unfold keptOf ifAny
      rw [List.length_append, List.length_map]
      split
      · show _ + 0 ≤ _
        omega
      · show _ + 1 ≤ _
        omega
    have kr : (keptOf init last).map noNl = rowsOf init last := by
      unfold keptOf rowsOf
      rw [List.map_append, List.map_map]
      congr 1
      · refine (List.map_congr_left fun l hl => ?_).trans (List.map_id _)
        exact noNl_fed l
      · unfold ifAny
        split
        · rfl
        · show [noNl last] = [last]
          rw [noNl_free (h10 last (List.mem_append_right _ (List.mem_singleton.mpr rfl)))]
    refine ⟨.str x, rfl, x, init, last, rfl, ex, h10, hx, fun H1 p s1 np ep => ⟨p, rfl, ⟨_, SqL.of ep⟩, fun L nL => ?_⟩⟩
    rw [← kr] at k
    generalize keptOf init last = ks at ep kb kn k
    refine lc_list (K := K) (a := p) (xs := (ks.map mk).map V.str) (fun i H2 => H2 L = some (rowsV ((ks.take i).map noNl)) ∧ Same H1 H2) ⟨upd_same, same_new nL⟩ (fun i H2 _ h => SqL.of (h.2 _ _ ep)) ?_ ?_
    · rintro i v H2 hv ⟨eL, s2⟩
      obtain ⟨z, rfl, hz⟩ := str_at hv
      rw [List.getElem?_map] at hz
      obtain ⟨l, hl, rfl⟩ := Option.map_eq_some_iff.mp hz
      have gl := kb l (List.mem_of_getElem? hl)
      have hi : i < ks.length := (List.getElem?_eq_some_iff.mp hl).1
      refine ⟨rfl, ?_⟩
      unfold tYes
      show ite (true = true) _ _
      rw [if_pos rfl]
      refine ⟨.str (mk l), rfl, ⟨_, rfl⟩, mk l, "\n", rfl, rfl, by rw [mk_len]; exact line_of (by omega), _, eL, ?_, ?_, fun b o e => ?_⟩
      · rw [List.length_map, List.length_map, List.length_map, List.length_take]
        exact Nat.lt_of_le_of_lt (show min i ks.length ≤ 10002 by omega) (by decide)
      · rw [upd_same, List.take_add_one, hl, List.map_append]
        unfold rowsV
        rw [List.map_append, List.map_append]
        rfl
      · rw [upd_ne (ne_of_none e nL)]
        exact s2 b o e
    rintro H2 ⟨eL, s2⟩
    rw [List.length_map, List.length_map, List.take_length] at eL
    exact k _ L (s1.trans s2) (s1.free nL) eL
/-- a text with a line feed behind it -/
def fedS (x : Str) : Str := if Txt.endswith x "\n" = true then x else x ++ "\n"
theorem fedS_of {x : Str} (h : Txt.endswith x "\n" = true) : fedS x = x := if_pos h
def wantS (x : Str) : Str := if ((x.length : Int) != 0) = true then fedS x else x
theorem wantS_of {x : Str} (h : x = "" ∨ Txt.endswith x "\n" = true) : wantS x = x := by
  unfold wantS
  split
  · rename_i hx
    rcases h with e | e
    · rw [e] at hx
      exact absurd hx (by decide +kernel)
    · exact fedS_of e
  · rfl
def errS : V → V
  | .str x => .str (fedS x)
  | v => v
theorem errS_of {er : V} (h : er = .non ∨ ∃ e : Str, er = .str e ∧ Txt.endswith e "\n" = true) : errS er = er := by
  rcases h with rfl | ⟨e, rfl, h⟩
  · rfl
  · exact congrArg V.str (fedS_of h)
def sp_fed : Sp := fun vs H Q _ => ∃ x : Str, vs = [.str x] ∧ x.length ≤ 100000 ∧ Q (.str (fedS x)) H
theorem ok_fed {f : Addr} {fd : FuncData} {dvs : List V} (F : Fn K "fed" s_fed dvs f fd) : FnOk P w K mg base CX0 1 f fd ["text"] (sp_fed) := by
  refine Fn.okN F sc_fed (fun vs H Q E h => ?_) (fun cdv A outer s H vs Q E hr h => ?_)
  · obtain ⟨_, rfl, _⟩ := h
    rfl
  · obtain ⟨x, rfl, hx, k⟩ := h
    refine ⟨_, (pss_one (ps_ret (pe_ifExp (pt_val (pe_m1 PySem.F.slot_str_endswith PySem.F.type_str_endswith mt_endswith (pv 0) pe_str)) (pv 0) (pe_op op_add_str (pv 0) pe_str)))), ?_⟩
    have l1 : ("\n" : Str).length = 1 := rfl
    refine ⟨_, rfl, ⟨_, rfl⟩, x, "\n", rfl, rfl, _, rfl, ?_⟩
    unfold fedS at k
    cases h : Txt.endswith x "\n" with
    | true =>
      rw [h, if_pos rfl] at k
      exact iteT ⟨_, rfl, k⟩
    | false =>
      rw [h, if_neg Bool.false_ne_true] at k
      exact iteF ⟨.str x, rfl, x, "\n", rfl, rfl, by rw [l1]; exact line_of (by omega), k⟩
def sp_words_of : Sp := fun vs H Q _ => ∃ x : Str, vs = [.str x] ∧ 9 ∉ tl x ∧ 10 ∉ tl x ∧ x.length ≤ 100000 ∧ ∀ (H' : Hp) (p : Addr), Same H H' → H p = none → H' p = some (.lst ((wordsS x).map V.str)) → Q (.ref p) H'
theorem ok_words_of {f : Addr} {fd : FuncData} {dvs : List V} (F : Fn K "words_of" s_words_of dvs f fd) : FnOk P w K mg base CX0 1 f fd ["text"] (sp_words_of) := by
  refine Fn.okN F sc_words_of (fun vs H Q E h => ?_) (fun cdv A outer s H vs Q E hr h => ?_)
  · obtain ⟨_, rfl, _⟩ := h
    rfl
  · obtain ⟨x, rfl, h9, h10, hx, k⟩ := h
    refine ⟨_, (pss_cons (ps_set (i := 1) sc_words_of.nd rfl (.inl rfl) (pe_replN (pe_replN (pv 0))))
      (pss_one (ps_ret (pe_lc (own := [("word", 2)]) (g := gName 2) (by rfl) sc_words_of.nd (pi_list (pe_m1 PySem.F.slot_str_split PySem.F.type_str_split mt_split (pv 1) pe_str)) (blkOk_by (own := [("word", 2)]) (N := ["text", "spaced", "word"]) (sc := defScope s_words_of) (by decide +kernel)) (fun _ _ _ _ _ => (pg_name (i := 2) sc_words_of.nd rfl (.inl rfl))) (fun _ _ _ _ _ => (pts_one (pt_tr (K' := K) (pv 2)))) (fun _ _ _ _ _ => (pv 2)))))), ?_⟩
    have o1 : (Builtin.Str.occurrences x "\t" 0 x.length (x.length + 1)).isEmpty = true := by
      rw [tab_eq]
      exact occ_absent h9
    have o2 : (Builtin.Str.occurrences x "\n" 0 x.length (x.length + 1)).isEmpty = true := by
      rw [nl_eq]
      exact occ_absent h10
    have sz := split_sizes x (y := [32]) (by simp) (by decide)
    refine ⟨_, rfl, x, rfl, o1, x, rfl, o2, .str x, rfl, ⟨_, rfl⟩, x, " ", rfl, rfl, by decide +kernel, line_of (by omega), fun p np => ⟨p, rfl, ⟨_, SqL.of upd_same⟩, fun L nL => ?_⟩⟩
    unfold wordsS at k
    rw [sp_eq] at nL k ⊢
    have s1 := same_new (o := .lst ((Txt.split x ⟨[32].toArray⟩).map V.str)) np
    have e1 : (upd H p (.lst ((Txt.split x ⟨[32].toArray⟩).map V.str))) p = some (.lst ((Txt.split x ⟨[32].toArray⟩).map V.str)) := upd_same
    have nL0 : H L = none := s1.free nL
    generalize upd H p (.lst ((Txt.split x ⟨[32].toArray⟩).map V.str)) = H1 at nL s1 e1 ⊢
    refine lc_list (K := K) (a := p) (xs := (Txt.split x ⟨[32].toArray⟩).map V.str) (fun i H2 => H2 L = some (.lst ((((Txt.split x ⟨[32].toArray⟩).take i).filter full).map V.str)) ∧ Same H1 H2)
      ⟨upd_same, same_new nL⟩ (fun i H2 _ h2 => SqL.of (h2.2 _ _ e1)) ?_ ?_
    · rintro i v H2 hv ⟨eL, s2⟩
      obtain ⟨z, rfl, hz⟩ := str_at hv
      have hil : i < (Txt.split x ⟨[32].toArray⟩).length := (List.getElem?_eq_some_iff.mp hz).1
      have zl := split_mem x (y := [32]) (by simp) (by decide) (List.mem_of_getElem? hz)
      refine ⟨rfl, .str z, rfl, _, ⟨line_of (by omega), rfl⟩, ?_⟩
      rw [full_len]
      have et := take_filter full hz
      cases hf : full z with
      | true =>
        rw [hf] at et
        have fl : (((Txt.split x ⟨[32].toArray⟩).take i).filter full).length ≤ i := Nat.le_trans (List.length_filter_le _ _) (List.length_take_le _ _)
        refine iteT ⟨.str z, rfl, _, eL, by rw [List.length_map]; exact Nat.lt_of_le_of_lt (show _ ≤ 200000 by omega) (by decide), ?_, fun b o e => ?_⟩
        · rw [upd_same, et, List.map_append]
          rfl
        · rw [upd_ne (ne_of_none e nL)]
          exact s2 b o e
      | false =>
        rw [hf] at et
        refine iteF ⟨?_, s2⟩
        rw [et]
        show H2 L = some (.lst (((((Txt.split x ⟨[32].toArray⟩).take i).filter full) ++ []).map V.str))
        rw [List.append_nil]
        exact eL
    · rintro H2 ⟨eL, s2⟩
      rw [List.length_map, List.take_length] at eL
      exact k _ L (s1.trans s2) nL0 eL
def sp_begins : Sp := fun vs H Q _ => ∃ x y : Str, vs = [.str x, .str y] ∧ x.length ≤ 10000 ∧ Q (.bl (bg x y)) H
theorem ok_begins {f : Addr} {fd : FuncData} {dvs : List V} (F : Fn K "begins" s_begins dvs f fd) : FnOk P w K mg base CX0 1 f fd ["line", "prompt"] (sp_begins) := by
  refine Fn.okN F sc_begins (fun vs H Q E h => ?_) (fun cdv A outer s H vs Q E hr h => ?_)
  · obtain ⟨_, _, rfl, _⟩ := h
    rfl
  · obtain ⟨x, y, rfl, hx, k⟩ := h
    refine ⟨_, (pss_one (ps_ret (pe_m1 PySem.F.slot_str_startswith PySem.F.type_str_startswith mt_startswith (pe_m1 PySem.F.slot_str_lstrip PySem.F.type_str_lstrip mt_lstripChars (pv 0) pe_str) (pv 1)))), ?_⟩
    exact ⟨.str x, rfl, ⟨_, rfl⟩, x, " ", rfl, rfl, line_of (by omega), ⟨_, rfl⟩, .str y, rfl, _, y, rfl, rfl, k⟩
def Short (ws : List (List Nat)) : Prop := ws.length ≤ 10000 ∧ ∀ l ∈ ws, l.length ≤ 10000
/-- where a row of lines ends that all have p, from i on -/
def runL (p : List Nat → Bool) (ws : List (List Nat)) (i : Nat) : Nat := i + ((ws.drop i).takeWhile p).length
theorem runL_ge (p : List Nat → Bool) (ws : List (List Nat)) (i : Nat) : i ≤ runL p ws i := Nat.le_add_right _ _
theorem runL_le {p : List Nat → Bool} {ws : List (List Nat)} {i : Nat} (h : i ≤ ws.length) : runL p ws i ≤ ws.length := by
  have := (List.takeWhile_sublist (l := ws.drop i) p).length_le
  rw [List.length_drop] at this
  unfold runL
  omega
theorem runL_end {p : List Nat → Bool} {ws : List (List Nat)} {i : Nat} (h : ws.length ≤ i) : runL p ws i = i := by
  unfold runL
  rw [List.drop_eq_nil_of_le h]
  rfl
theorem runL_stop {p : List Nat → Bool} {ws : List (List Nat)} {i : Nat} (h : i < ws.length) (hp : p ws[i] = false) : runL p ws i = i := by
  unfold runL
  rw [List.drop_eq_getElem_cons h, List.takeWhile_cons, hp]
  rfl
theorem runL_step {p : List Nat → Bool} {ws : List (List Nat)} {i : Nat} (h : i < ws.length) (hp : p ws[i] = true) : runL p ws i = runL p ws (i + 1) := by
  unfold runL
  rw [List.drop_eq_getElem_cons h, List.takeWhile_cons, hp, if_pos rfl, List.length_cons]
  omega
def pS (l : List Nat) : Bool := bg (mk l) "..."
def pE (l : List Nat) : Bool := !isBlank l && !bg (mk l) ">>>"
def sp_behind_source : Sp := fun vs H Q _ => ∃ (p : Addr) (ws : List (List Nat)) (i : Nat), vs = [.ref p, .int (i : Int)] ∧ H p = some (rowsV ws) ∧ Short ws ∧ Q (.int (runL pS ws i : Nat)) H
theorem ok_behind_source {f : Addr} {fd : FuncData} {dvs : List V} (F : Fn K "behind_source" s_behind_source dvs f fd) (O_begins : Own P w K mg base "begins" 1 ["line", "prompt"] [] (sp_begins)) (m_len : mg "len" = none) {t_FURTHER : Tok} (c_FURTHER : mg "FURTHER" = some (.str "..." t_FURTHER)) : FnOk P w K mg base CX0 2 f fd ["lines", "at"] (sp_behind_source) := by
  refine Fn.okN F sc_behind_source (fun vs H Q E h => ?_) (fun cdv A outer s H vs Q E hr h => ?_)
  · obtain ⟨_, _, _, rfl, _⟩ := h
    rfl
  · obtain ⟨p, ws, i, rfl, hp, hs, k⟩ := h
    refine ⟨_, (pss_cons (ps_while PassesOwn.never (PW.pt (pw_and (pt_cmpR op_lt (pv 1) (pe_callB call_len_seq (by rfl) m_len PySem.boot_len (pa_cons (pv 0) pa_nil)) (nomark _)) (pw_and1 (pt_val (pe_own O_begins (hr.mono (by decide)) (by rfl) (pa_cons (pe_ix ix_list (pv 0) (pv 1) (fun _ _ => rfl)) (pa_cons (pe_glob (v := .str "...") rfl c_FURTHER ⟨_, rfl⟩) pa_nil)))))))
          (pss_one (ps_set (i := 1) sc_behind_source.nd rfl (.inl rfl) (pe_op op_add (pv 1) pe_int))))
      (pss_one (ps_ret (pv 1)))), ?_⟩
    have hlen : ((ws.map mk).map V.str).length = ws.length := by rw [List.length_map, List.length_map]
    refine while_by (fun σ H1 => ∃ j : Nat, σ = [some (.ref p), some (.int (j : Int))] ∧ H = H1 ∧ runL pS ws j = runL pS ws i) (fun σ _ => match σ with | [_, some (.int z)] => (ws.length - z).toNat | _ => 0) ⟨i, rfl, rfl, rfl⟩ ?_ (mo_and (mo_test (mo_op mo_I0 mo_var (mo_cb (fun xs H Q Q' i ⟨p, ys, e1, e2, q⟩ => ⟨p, ys, e1, e2, i _ _ q⟩) (mo_cons mo_var mo_nil)))) (mo_B (mo_call (fun vs H Q Q' E i ⟨x, y, e, l, q⟩ => ⟨x, y, e, l, i _ _ q⟩) (mo_cons (mo_op mo_ix mo_var mo_var) (mo_cons mo_const mo_nil)))))
    rintro σ H1 ⟨j, rfl, rfl, hj⟩
    refine ⟨.int (j : Int), rfl, .ref p, rfl, p, _, rfl, .inl (SqL.of hp), _, _, rfl, rfl, _, rfl, ?_⟩
    rw [hlen]
    rcases Nat.lt_or_ge j ws.length with hi | hi
    · have hg : ((ws.map mk).map V.str)[j]? = some (.str (mk ws[j])) := by
        rw [List.getElem?_map, List.getElem?_map, List.getElem?_eq_getElem hi]
        rfl
      rw [decide_eq_true (by omega)]
      refine iteT ⟨.ref p, rfl, .int (j : Int), rfl, p, _, _, .str (mk ws[j]), rfl, rfl, SqL.of hp, atI_nat hg, mk ws[j], "...", rfl, by rw [mk_len]; exact Nat.le_trans (hs.2 _ (List.getElem_mem _)) (by decide), _, rfl, ?_⟩
      cases hb : bg (mk ws[j]) "..." with
      | false =>
        rw [← hj, runL_stop hi hb] at k
        exact iteF ⟨_, rfl, k⟩
      | true =>
        refine iteT ⟨_, rfl, _, _, rfl, rfl, ⟨j + 1, rfl, rfl, by rw [← hj, runL_step hi hb]⟩, ?_⟩
        show ((ws.length : Int) - ((j : Int) + 1)).toNat < ((ws.length : Int) - (j : Int)).toNat
        omega
    · rw [decide_eq_false (by omega)]
      rw [← hj, runL_end hi] at k
      exact iteF ⟨_, rfl, k⟩
def sp_behind_expected : Sp := fun vs H Q _ => ∃ (p : Addr) (ws : List (List Nat)) (i : Nat), vs = [.ref p, .int (i : Int)] ∧ H p = some (rowsV ws) ∧ Short ws ∧ Q (.int (runL pE ws i : Nat)) H
theorem ok_behind_expected {f : Addr} {fd : FuncData} {dvs : List V} (F : Fn K "behind_expected" s_behind_expected dvs f fd) (O_is_blank : Own P w K mg base "is_blank" 1 ["line"] [] (sp_is_blank)) (O_begins : Own P w K mg base "begins" 1 ["line", "prompt"] [] (sp_begins)) (m_len : mg "len" = none) {t_PROMPT : Tok} (c_PROMPT : mg "PROMPT" = some (.str ">>>" t_PROMPT)) : FnOk P w K mg base CX0 2 f fd ["lines", "at"] (sp_behind_expected) := by
  refine Fn.okN F sc_behind_expected (fun vs H Q E h => ?_) (fun cdv A outer s H vs Q E hr h => ?_)
  · obtain ⟨_, _, _, rfl, _⟩ := h
    rfl
  · obtain ⟨p, ws, i, rfl, hp, hs, k⟩ := h
    refine ⟨_, (pss_cons (ps_while PassesOwn.never (PW.pt (pw_and (pt_cmpR op_lt (pv 1) (pe_callB call_len_seq (by rfl) m_len PySem.boot_len (pa_cons (pv 0) pa_nil)) (nomark _)) (pw_and (pt_not (pt_val (pe_own O_is_blank (hr.mono (by decide)) (by rfl) (pa_cons (pe_ix ix_list (pv 0) (pv 1) (fun _ _ => rfl)) pa_nil)))) (pw_and1 (pt_not (pt_val (pe_own O_begins (hr.mono (by decide)) (by rfl) (pa_cons (pe_ix ix_list (pv 0) (pv 1) (fun _ _ => rfl)) (pa_cons (pe_glob (v := .str ">>>") rfl c_PROMPT ⟨_, rfl⟩) pa_nil)))))))))
          (pss_one (ps_set (i := 1) sc_behind_expected.nd rfl (.inl rfl) (pe_op op_add (pv 1) pe_int))))
      (pss_one (ps_ret (pv 1)))), ?_⟩
    have hlen : ((ws.map mk).map V.str).length = ws.length := by rw [List.length_map, List.length_map]
    refine while_by (fun σ H1 => ∃ j : Nat, σ = [some (.ref p), some (.int (j : Int))] ∧ H = H1 ∧ runL pE ws j = runL pE ws i) (fun σ _ => match σ with | [_, some (.int z)] => (ws.length - z).toNat | _ => 0) ⟨i, rfl, rfl, rfl⟩ ?_ (mo_and (mo_test (mo_op mo_I0 mo_var (mo_cb (fun xs H Q Q' i ⟨p, ys, e1, e2, q⟩ => ⟨p, ys, e1, e2, i _ _ q⟩) (mo_cons mo_var mo_nil)))) (mo_and (mo_not (mo_B (mo_call (fun vs H Q Q' E i ⟨x, e, l, q⟩ => ⟨x, e, l, i _ _ q⟩) (mo_cons (mo_op mo_ix mo_var mo_var) mo_nil)))) (mo_not (mo_B (mo_call (fun vs H Q Q' E i ⟨x, y, e, l, q⟩ => ⟨x, y, e, l, i _ _ q⟩) (mo_cons (mo_op mo_ix mo_var mo_var) (mo_cons mo_const mo_nil)))))))
    rintro σ H1 ⟨j, rfl, rfl, hj⟩
    refine ⟨.int (j : Int), rfl, .ref p, rfl, p, _, rfl, .inl (SqL.of hp), _, _, rfl, rfl, _, rfl, ?_⟩
    rw [hlen]
    rcases Nat.lt_or_ge j ws.length with hi | hi
    · have hg : ((ws.map mk).map V.str)[j]? = some (.str (mk ws[j])) := by
        rw [List.getElem?_map, List.getElem?_map, List.getElem?_eq_getElem hi]
        rfl
      have lm : (mk ws[j]).length ≤ 10000 := by rw [mk_len]; exact hs.2 _ (List.getElem_mem _)
      rw [decide_eq_true (by omega)]
      refine iteT ⟨.ref p, rfl, .int (j : Int), rfl, p, _, _, .str (mk ws[j]), rfl, rfl, SqL.of hp, atI_nat hg, mk ws[j], rfl, by omega, _, rfl, ?_⟩
      show ite ((!isBlank ws[j]) = true) _ _
      cases hb : isBlank ws[j] with
      | true =>
        rw [← hj, runL_stop hi (by unfold pE; rw [hb]; rfl)] at k
        exact iteF (iteF ⟨_, rfl, k⟩)
      | false =>
        refine iteT ⟨.ref p, rfl, .int (j : Int), rfl, p, _, _, .str (mk ws[j]), rfl, rfl, SqL.of hp, atI_nat hg, mk ws[j], ">>>", rfl, by omega, _, rfl, ?_⟩
        cases hc : bg (mk ws[j]) ">>>" with
        | true =>
          rw [← hj, runL_stop hi (by unfold pE; rw [hc, Bool.and_comm]; rfl)] at k
          exact iteF ⟨_, rfl, k⟩
        | false =>
          refine iteT ⟨_, rfl, _, _, rfl, rfl, ⟨j + 1, rfl, rfl, by rw [← hj, runL_step hi (by unfold pE; rw [hb, hc]; rfl)]⟩, ?_⟩
          show ((ws.length : Int) - ((j : Int) + 1)).toNat < ((ws.length : Int) - (j : Int)).toNat
          omega
    · rw [decide_eq_false (by omega)]
      rw [← hj, runL_end hi] at k
      exact iteF (iteF ⟨_, rfl, k⟩)
/-- the cuts of lines, from a place on -/
def cutsL (ws : List (List Nat)) (i : Nat) : List (Nat × Nat × Nat) :=
  if h : i < ws.length then
    if bg (mk ws[i]) ">>>" = true then (i, runL pS ws (i + 1), runL pE ws (runL pS ws (i + 1))) :: cutsL ws (runL pE ws (runL pS ws (i + 1)))
    else cutsL ws (i + 1)
  else []
termination_by ws.length - i
decreasing_by
  · have h1 := runL_ge pS ws (i + 1)
    have h2 := runL_ge pE ws (runL pS ws (i + 1))
    omega
  · omega
theorem cutsL_len (ws : List (List Nat)) : ∀ (f i : Nat), ws.length - i ≤ f → (cutsL ws i).length ≤ ws.length - i
  | 0, i, h => by
    rw [cutsL, dif_neg (by omega)]
    exact Nat.zero_le _
  | f + 1, i, h => by
    rw [cutsL]
    split
    · split
      · have h1 := runL_ge pS ws (i + 1)
        have h2 := runL_ge pE ws (runL pS ws (i + 1))
        have ih := cutsL_len ws f (runL pE ws (runL pS ws (i + 1))) (by omega)
        rw [List.length_cons]
        omega
      · have ih := cutsL_len ws f (i + 1) (by omega)
        omega
    · exact Nat.zero_le _
def cutV3 (c : Nat × Nat × Nat) : HO := .tup [.int (c.1 : Int), .int (c.2.1 : Int), .int (c.2.2 : Int)]
/-- triples that stand at addresses -/
def CutsAt (H : Hp) : List Addr → List (Nat × Nat × Nat) → Prop
  | [], [] => True
  | t :: ts, c :: cs => H t = some (cutV3 c) ∧ CutsAt H ts cs
  | _, _ => False
theorem CutsAt.same {H H' : Hp} (s : Same H H') : ∀ {ts : List Addr} {cs : List (Nat × Nat × Nat)}, CutsAt H ts cs → CutsAt H' ts cs
  | [], [], _ => trivial
  | _ :: _, _ :: _, h => ⟨s _ _ h.1, CutsAt.same s h.2⟩
  | [], _ :: _, h => h
  | _ :: _, [], h => h
theorem CutsAt.upd {H : Hp} {C : Addr} {xs : List V} {o : HO} (e : H C = some (.lst xs)) : ∀ {ts : List Addr} {cs : List (Nat × Nat × Nat)}, CutsAt H ts cs → CutsAt (L2.upd H C o) ts cs
  | [], [], _ => trivial
  | t :: _, _ :: _, h => ⟨by
    have h1 : H t = some (cutV3 _) := h.1
    rw [upd_ne (fun z => by rw [z, e] at h1; cases h1)]
    exact h.1, CutsAt.upd e h.2⟩
  | [], _ :: _, h => h
  | _ :: _, [], h => h
theorem CutsAt.snoc {H : Hp} {t : Addr} {c : Nat × Nat × Nat} (e : H t = some (cutV3 c)) : ∀ {ts : List Addr} {cs : List (Nat × Nat × Nat)}, CutsAt H ts cs → CutsAt H (ts ++ [t]) (cs ++ [c])
  | [], [], _ => ⟨e, trivial⟩
  | _ :: _, _ :: _, h => ⟨h.1, CutsAt.snoc e h.2⟩
  | [], _ :: _, h => h.elim
  | _ :: _, [], h => h.elim
theorem CutsAt.get {H : Hp} : ∀ {ts : List Addr} {cs : List (Nat × Nat × Nat)} {i : Nat} {t : Addr}, CutsAt H ts cs → ts[i]? = some t → ∃ c, cs[i]? = some c ∧ H t = some (cutV3 c)
  | [], _, i, t, _, h => by cases h
  | _ :: _, [], _, _, h, _ => h.elim
  | a :: ts, c :: cs, 0, t, h, e => by
    cases e
    exact ⟨c, rfl, h.1⟩
  | a :: ts, c :: cs, i + 1, t, h, e => by
    obtain ⟨d, h1, h2⟩ := CutsAt.get (i := i) h.2 e
    exact ⟨d, h1, h2⟩
theorem CutsAt.len {H : Hp} : ∀ {ts : List Addr} {cs : List (Nat × Nat × Nat)}, CutsAt H ts cs → ts.length = cs.length
  | [], [], _ => rfl
  | _ :: _, _ :: _, h => congrArg Nat.succ (CutsAt.len h.2)
  | [], _ :: _, h => h.elim
  | _ :: _, [], h => h.elim
def sp_cuts_of : Sp := fun vs H Q _ => ∃ (p : Addr) (ws : List (List Nat)), vs = [.ref p] ∧ H p = some (rowsV ws) ∧ Short ws ∧
  ∀ (H' : Hp) (q : Addr) (ts : List Addr), Same H H' → H q = none → H' q = some (.lst (ts.map V.ref)) → CutsAt H' ts (cutsL ws 0) → Q (.ref q) H'
theorem ok_cuts_of {f : Addr} {fd : FuncData} {dvs : List V} (F : Fn K "cuts_of" s_cuts_of dvs f fd) (O_begins : Own P w K mg base "begins" 1 ["line", "prompt"] [] (sp_begins)) (O_behind_source : Own P w K mg base "behind_source" 2 ["lines", "at"] [] (sp_behind_source)) (O_behind_expected : Own P w K mg base "behind_expected" 2 ["lines", "at"] [] (sp_behind_expected)) (m_len : mg "len" = none) {t_PROMPT : Tok} (c_PROMPT : mg "PROMPT" = some (.str ">>>" t_PROMPT)) : FnOk P w K mg base CX0 3 f fd ["lines"] (sp_cuts_of) := by
  refine Fn.okN F sc_cuts_of (fun vs H Q E h => ?_) (fun cdv A outer s H vs Q E hr h => ?_)
  · obtain ⟨_, _, rfl, _⟩ := h
    rfl
  · obtain ⟨p, ws, rfl, hp, hs, k⟩ := h
    refine ⟨_, (pss_cons (ps_set (i := 1) sc_cuts_of.nd rfl (.inl rfl) (pe_lst pa_nil))
      (pss_cons (ps_set (i := 2) sc_cuts_of.nd rfl (.inl rfl) pe_int)
      (pss_cons (ps_while PassesOwn.never (pt_cmpR op_lt (pv 2) (pe_callB call_len_seq (by rfl) m_len PySem.boot_len (pa_cons (pv 0) pa_nil)) (nomark _))
          (pss_one (ps_if (pt_val (pe_own O_begins (hr.mono (by decide)) (by rfl) (pa_cons (pe_ix ix_list (pv 0) (pv 2) (fun _ _ => rfl)) (pa_cons (pe_glob (v := .str ">>>") rfl c_PROMPT ⟨_, rfl⟩) pa_nil))))
                (pss_cons (ps_set (i := 3) sc_cuts_of.nd rfl (.inl rfl) (pe_own O_behind_source (hr.mono (by decide)) (by rfl) (pa_cons (pv 0) (pa_cons (pe_op op_add (pv 2) pe_int) pa_nil))))
                  (pss_cons (ps_set (i := 4) sc_cuts_of.nd rfl (.inl rfl) (pe_own O_behind_expected (hr.mono (by decide)) (by rfl) (pa_cons (pv 0) (pa_cons (pv 3) pa_nil))))
                  (pss_cons (ps_expr (pe_bm PySem.F.plainAttrs_list PySem.F.slot_list_append PySem.F.type_list_append mt_append (pv 1) (pa_cons (pe_tup (pa_cons (pv 2) (pa_cons (pv 3) (pa_cons (pv 4) pa_nil)))) pa_nil)))
                  (pss_one (ps_set (i := 2) sc_cuts_of.nd rfl (.inl rfl) (pv 4))))))
                (pss_one (ps_set (i := 2) sc_cuts_of.nd rfl (.inl rfl) (pe_op op_add (pv 2) pe_int))))))
      (pss_one (ps_ret (pv 1)))))), ?_⟩
    have hlen : ((ws.map mk).map V.str).length = ws.length := by rw [List.length_map, List.length_map]
    refine ⟨by show 0 ≤ sizeLine; decide, fun C nC => ?_⟩
    have sC := same_new (o := .lst []) nC
    have pC : p ≠ C := ne_of_none hp nC
    refine while_by (fun σ H1 => ∃ (i : Nat) (v3 v4 : Option V) (ts : List Addr) (cs : List (Nat × Nat × Nat)), σ = [some (.ref p), some (.ref C), some (.int (i : Int)), v3, v4] ∧ Same H H1 ∧ H1 C = some (.lst (ts.map V.ref)) ∧ CutsAt H1 ts cs ∧ cs ++ cutsL ws i = cutsL ws 0 ∧ cs.length ≤ i)
      (fun σ _ => match σ with | [_, _, some (.int z), _, _] => (ws.length - z).toNat | _ => 0) ⟨0, _, _, [], [], rfl, sC, upd_same, trivial, rfl, Nat.le_refl _⟩ ?_ (mo_test (mo_op mo_I0 mo_var (mo_cb (fun xs H Q Q' i ⟨p, ys, e1, e2, q⟩ => ⟨p, ys, e1, e2, i _ _ q⟩) (mo_cons mo_var mo_nil))))
    rintro σ H1 ⟨i, v3, v4, ts, cs, rfl, s1, eC, hc, he, hcl⟩
    have hp1 := s1 _ _ hp
    refine ⟨.int (i : Int), rfl, .ref p, rfl, p, _, rfl, .inl (SqL.of hp1), _, _, rfl, rfl, _, rfl, ?_⟩
    rw [hlen]
    rcases Nat.lt_or_ge i ws.length with hi | hi
    · have hg : ((ws.map mk).map V.str)[i]? = some (.str (mk ws[i])) := by
        rw [List.getElem?_map, List.getElem?_map, List.getElem?_eq_getElem hi]
        rfl
      rw [decide_eq_true (by omega)]
      refine iteT ⟨.ref p, rfl, .int (i : Int), rfl, p, _, _, .str (mk ws[i]), rfl, rfl, SqL.of hp1, atI_nat hg, mk ws[i], ">>>", rfl, by rw [mk_len]; exact Nat.le_trans (hs.2 _ (List.getElem_mem _)) (by decide), _, rfl, ?_⟩
      cases hb : bg (mk ws[i]) ">>>" with
      | true =>
        have h1 := runL_ge pS ws (i + 1)
        have h2 := runL_ge pE ws (runL pS ws (i + 1))
        have hu : cutsL ws i = (i, runL pS ws (i + 1), runL pE ws (runL pS ws (i + 1))) :: cutsL ws (runL pE ws (runL pS ws (i + 1))) := by
          rw [cutsL, dif_pos hi, if_pos hb]
        have h3 : runL pE ws (runL pS ws (i + 1)) ≤ ws.length := runL_le (runL_le hi)
        refine iteT ⟨.ref p, rfl, .int (i : Int), rfl, _, _, rfl, rfl, p, ws, i + 1, rfl, hp1, hs, ?_⟩
        generalize runL pS ws (i + 1) = m at h1 h2 hu h3 ⊢
        refine ⟨.ref p, rfl, .int (m : Int), rfl, p, ws, m, rfl, hp1, hs, ?_⟩
        generalize runL pE ws m = e at h2 hu h3 ⊢
        refine ⟨.ref C, rfl, .inl ⟨rfl, _, SqL.of eC⟩, .int (i : Int), rfl, .int (m : Int), rfl, .int (e : Int), rfl, by show 3 ≤ sizeLine; decide, fun T nT => ?_⟩
        have sT := same_new (o := .tup [.int (i : Int), .int (m : Int), .int (e : Int)]) nT
        have CT : C ≠ T := ne_of_none eC nT
        refine ⟨C, ts.map V.ref, _, rfl, rfl, sT _ _ eC, ?_, _, rfl, ⟨e, _, _, ts ++ [T], cs ++ [(i, m, e)], rfl, fun b o eb => ?_, ?_, ?_, by rw [List.append_assoc]; show cs ++ (i, m, e) :: cutsL ws e = _; rw [← hu]; exact he, by rw [List.length_append]; show cs.length + 1 ≤ _; omega⟩, ?_⟩
        · rw [List.length_map, hc.len]
          exact Nat.lt_of_le_of_lt (show cs.length ≤ 10000 by have := hs.1; omega) (by decide)
        · rw [upd_ne (ne_of_none eb nC)]
          exact sT _ _ (s1 _ _ eb)
        · rw [upd_same, List.map_append]
          rfl
        · refine CutsAt.upd (sT _ _ eC) ?_
          exact CutsAt.snoc (c := (i, m, e)) upd_same (hc.same sT)
        · show ((ws.length : Int) - (e : Int)).toNat < ((ws.length : Int) - (i : Int)).toNat
          omega
      | false =>
        have hu : cutsL ws i = cutsL ws (i + 1) := by
          rw [cutsL, dif_pos hi, if_neg (by rw [hb]; decide)]
        refine iteF ⟨_, rfl, _, _, rfl, rfl, ⟨i + 1, _, _, ts, cs, rfl, s1, eC, hc, by rw [← hu]; exact he, by omega⟩, ?_⟩
        show ((ws.length : Int) - ((i : Int) + 1)).toNat < ((ws.length : Int) - (i : Int)).toNat
        omega
    · rw [decide_eq_false (by omega)]
      have hu : cutsL ws i = [] := by
        rw [cutsL, dif_neg (by omega)]
      rw [hu, List.append_nil] at he
      rw [he] at hc
      exact iteF ⟨.ref C, rfl, k _ C ts s1 nC eC hc⟩
def sp_refuse_wrong_indents : Sp := fun vs H Q _ => ∃ (p : Addr) (ws : List (List Nat)) (a b : Nat) (y : Str), vs = [.ref p, .int (a : Int), .int (b : Int), .str y] ∧ H p = some (rowsV ws) ∧ a ≤ 100000 ∧ b ≤ ws.length ∧ Short ws ∧ (∀ j l, a ≤ j → j < b → ws[j]? = some l → Txt.startswith (mk l) y = true) ∧ Q .non H
theorem ok_refuse_wrong_indents {f : Addr} {fd : FuncData} {dvs : List V} (F : Fn K "refuse_wrong_indents" s_refuse_wrong_indents dvs f fd) {C_BadText : Addr} (T_BadText : Err_BadText K mg C_BadText) (O_BadText_init : OwnE P w K mg base "BadText" C_BadText 2 ["self", "line", "reason", "found"] (sp_BadText_init C_BadText)) (m_range : mg "range" = none) : FnOk P w K mg base (L2.CX P w) 4 f fd ["lines", "start", "end", "ahead"] (sp_refuse_wrong_indents) := by
  refine Fn.okX F sc_refuse_wrong_indents (fun vs H Q E h => ?_) (fun cdv A outer s H vs Q E hr h => ?_)
  · obtain ⟨_, _, _, _, _, rfl, _⟩ := h
    rfl
  · obtain ⟨p, ws, a, b, y, rfl, hp, ha, hb, hs, hy, k⟩ := h
    refine ⟨_, (pss_one (ps_for (passes_of rfl) rfl (pi_range2 rfl m_range (pa_cons (pv 1) (pa_cons (pv 2) pa_nil))) (pg_name (i := 4) sc_refuse_wrong_indents.nd rfl (.inl rfl))
          (pss_one (ps_if (pt_not (pt_val (pe_m1 PySem.F.slot_str_startswith PySem.F.type_str_startswith mt_startswith (pe_ix ix_list (pv 0) (pv 4) (fun _ _ => rfl)) (pv 3))))
                (pss_one (ps_raise rfl (takes_of rfl rfl rfl rfl) (pmk_E O_BadText_init (hr.mono (by decide)) (by rfl) (pa_cons (pe_op op_add (pv 4) pe_int) (pa_cons pe_str (pa_cons (pe_ix ix_list (pv 0) (pv 4) (fun _ _ => rfl)) pa_nil))))))
                pss_nil)))), ?_⟩
    have h1 := hs.1
    refine ⟨.int (a : Int), rfl, .int (b : Int), rfl, a, b, rfl, ⟨by omega, by omega, by omega, by omega⟩, for_range (lo := (a : Int)) (n := ((b : Int) - (a : Int)).toNat) (fun i σ H1 => ∃ v4, σ = [some (.ref p), some (.int (a : Int)), some (.int (b : Int)), some (.str y), v4] ∧ H1 = H) ⟨_, rfl, rfl⟩ ?_ ?_⟩
    · rintro i σ H1 hi ⟨v4, rfl, rfl⟩
      have hj : a + i < ws.length := by omega
      refine ⟨.ref p, rfl, .int ((a : Int) + (i : Nat)), rfl, p, _, _, .str (mk ws[a + i]), rfl, rfl, SqL.of hp, ?_, ⟨_, rfl⟩, .str y, rfl, mk ws[a + i], y, rfl, rfl, _, rfl, ?_⟩
      · rw [show ((a : Int) + (i : Nat)) = ((a + i : Nat) : Int) by omega]
        exact atI_nat (by rw [List.getElem?_map, List.getElem?_map, List.getElem?_eq_getElem hj]; rfl)
      · rw [hy (a + i) ws[a + i] (by omega) (by omega) (List.getElem?_eq_getElem hj)]
        exact iteF ⟨_, rfl, rfl⟩
    · rintro σ H1 ⟨v4, rfl, rfl⟩
      exact k
theorem mulOk_sp {n : Nat} (h : n ≤ 10000) : MulOk " " (n : Int) := by
  have l1 : (" " : Str).length = 1 := rfl
  refine ⟨?_, fun h1 _ => ?_, fun h1 _ => ?_⟩
  · rw [decide_eq_false (by omega), decide_eq_false (by omega)]
    rfl
  · rw [l1]
    have h2 : (0 : Int) < (n : Int) := by omega
    have h3 : ((1 : Nat) : Int) ≤ (2 ^ 63 - 1) / (n : Int) := (Int.le_ediv_iff_mul_le h2).mpr (by omega)
    omega
  · rw [l1]
    unfold Builtin.Str.tooLong
    have hz : (10000 : Nat) < sizeLine := by decide
    rw [decide_eq_false (by omega)]
theorem mul_len (n : Nat) : (Txt.mul " " (n : Int)).length ≤ n + 1 := by
  have e := PyProof.Rows.len_mul " " (n : Int)
  have l1 : ((" " : Str).length : Int) = 1 := rfl
  rw [decide_eq_false (by omega), if_neg Bool.false_ne_true, l1] at e
  omega
/-- a cut at which no line is wrong -/
structure RightCut (ws : List (List Nat)) (a m e : Nat) : Prop where
  am : a < m
  me : m ≤ e
  ew : e ≤ ws.length
  bl : ∀ j l, a ≤ j → j < m → ws[j]? = some l → inV (.str (cutS (mk l) (some ((lead (ws[a]'(by omega)) : Int) + (3 : Int))) (some ((lead (ws[a]'(by omega)) : Int) + (3 : Int) + 1)))) [.str "", .str " "] = true
  src : ∀ j l, a + 1 ≤ j → j < m → ws[j]? = some l → Txt.startswith (mk l) (Txt.mul " " (lead (ws[a]'(by omega)) : Int) ++ ".") = true
  wnt : ∀ j l, m ≤ j → j < e → ws[j]? = some l → Txt.startswith (mk l) (Txt.mul " " (lead (ws[a]'(by omega)) : Int)) = true
def sp_refuse_wrong_lines : Sp := fun vs H Q _ => ∃ (p t : Addr) (ws : List (List Nat)) (a m e : Nat), vs = [.ref p, .ref t] ∧ H p = some (rowsV ws) ∧ H t = some (cutV3 (a, m, e)) ∧ Short ws ∧ RightCut ws a m e ∧ ∀ H', Same H H' → Q .non H'
theorem ok_refuse_wrong_lines {f : Addr} {fd : FuncData} {dvs : List V} (F : Fn K "refuse_wrong_lines" s_refuse_wrong_lines dvs f fd) {C_BadText : Addr} (T_BadText : Err_BadText K mg C_BadText) (O_indent_of : Own P w K mg base "indent_of" 1 ["line"] [] (sp_indent_of)) (O_BadText_init : OwnE P w K mg base "BadText" C_BadText 2 ["self", "line", "reason", "found"] (sp_BadText_init C_BadText)) (O_refuse_wrong_indents : OwnX P w K mg base "refuse_wrong_indents" 4 ["lines", "start", "end", "ahead"] [] (sp_refuse_wrong_indents)) (m_len : mg "len" = none) (m_range : mg "range" = none) {t_PROMPT : Tok} (c_PROMPT : mg "PROMPT" = some (.str ">>>" t_PROMPT)) : FnOk P w K mg base (L2.CX P w) 5 f fd ["lines", "cut"] (sp_refuse_wrong_lines) := by
  refine Fn.okX F sc_refuse_wrong_lines (fun vs H Q E h => ?_) (fun cdv A outer s H vs Q E hr h => ?_)
  · obtain ⟨_, _, _, _, _, _, rfl, _⟩ := h
    rfl
  · obtain ⟨p, t, ws, a, m, e, rfl, hp, ht, hs, rc, k⟩ := h
    refine ⟨_, (pss_cons (ps_asg (pv 1) (pg_tup rfl (pgs_cons (pg_name (i := 2) sc_refuse_wrong_lines.nd rfl (.inl rfl)) (pgs_cons (pg_name (i := 3) sc_refuse_wrong_lines.nd rfl (.inl rfl)) (pgs_cons (pg_name (i := 4) sc_refuse_wrong_lines.nd rfl (.inl rfl)) pgs_nil)))))
      (pss_cons (ps_set (i := 5) sc_refuse_wrong_lines.nd rfl (.inl rfl) (pe_own O_indent_of (hr.mono (by decide)) (by rfl) (pa_cons (pe_ix ix_list (pv 0) (pv 2) (fun _ _ => rfl)) pa_nil)))
      (pss_cons (ps_set (i := 6) sc_refuse_wrong_lines.nd rfl (.inl rfl) (pe_op op_add (pv 5) (pe_callB call_len_str (by rfl) m_len PySem.boot_len (pa_cons (pe_glob (v := .str ">>>") rfl c_PROMPT ⟨_, rfl⟩) pa_nil))))
      (pss_cons (ps_for (passes_of rfl) rfl (pi_range2 rfl m_range (pa_cons (pv 2) (pa_cons (pv 3) pa_nil))) (pg_name (i := 7) sc_refuse_wrong_lines.nd rfl (.inl rfl))
          (pss_one (ps_if (pt_cmpR op_notIn_seq (pe_slice sl_str (pe_ix ix_list (pv 0) (pv 7) (fun _ _ => rfl)) (po_some (pv 6)) (po_some (pe_op op_add (pv 6) pe_int))) (pe_tup (pa_cons pe_str (pa_cons pe_str pa_nil))) rfl)
                (pss_one (ps_raise rfl (takes_of rfl rfl rfl rfl) (pmk_E O_BadText_init (hr.mono (by decide)) (by rfl) (pa_cons (pe_op op_add (pv 7) pe_int) (pa_cons pe_str (pa_cons (pe_slice sl_str (pe_ix ix_list (pv 0) (pv 7) (fun _ _ => rfl)) (po_some (pv 5)) (po_some (pv 6))) pa_nil))))))
                pss_nil)))
      (pss_cons (ps_expr (pe_ownX O_refuse_wrong_indents (hr.mono (by decide)) (takes_of rfl rfl rfl rfl) (fun _ _ _ _ h => h) (by rfl) (pa_cons (pv 0) (pa_cons (pe_op op_add (pv 2) pe_int) (pa_cons (pv 3) (pa_cons (pe_op op_add_str (pe_op op_repS pe_str (pv 5)) pe_str) pa_nil))))))
      (pss_one (ps_expr (pe_ownX O_refuse_wrong_indents (hr.mono (by decide)) (takes_of rfl rfl rfl rfl) (fun _ _ _ _ h => h) (by rfl) (pa_cons (pv 0) (pa_cons (pv 3) (pa_cons (pv 4) (pa_cons (pe_op op_repS pe_str (pv 5)) pa_nil)))))))))))), ?_⟩
    obtain ⟨am, me, ew, bl, src, wnt⟩ := rc
    have h1 := hs.1
    have ha : a < ws.length := by omega
    have hga : ((ws.map mk).map V.str)[a]? = some (.str (mk ws[a])) := by
      rw [List.getElem?_map, List.getElem?_map, List.getElem?_eq_getElem ha]
      rfl
    have la := hs.2 _ (List.getElem_mem ha)
    have ll : lead ws[a] ≤ 10000 := Nat.le_trans (lead_le _) la
    have mo := mulOk_sp ll
    have ml := mul_len (lead ws[a])
    refine ⟨.ref t, rfl, t, _, rfl, SqT.of ht, rfl, _, _, rfl, _, _, rfl, _, _, rfl, rfl, .ref p, rfl, .int (a : Int), rfl, p, _, _, .str (mk ws[a]), rfl, rfl, SqL.of hp, atI_nat hga, mk ws[a], rfl, by rw [mk_len]; omega, ?_⟩
    rw [show tl (mk ws[a]) = ws[a] from rfl]
    generalize lead ws[a] = n at bl src wnt ll mo ml ⊢
    have e3 : ((">>>" : Str).length : Int) = 3 := by decide +kernel
    refine ⟨.int (n : Int), rfl, ">>>", rfl, by decide +kernel, _, _, rfl, rfl, .int (a : Int), rfl, .int (m : Int), rfl, a, m, rfl, ⟨by omega, by omega, by omega, by omega⟩, ?_⟩
    rw [e3]
    refine for_range (lo := (a : Int)) (n := ((m : Int) - (a : Int)).toNat) (fun i σ H1 => ∃ v7, σ = [some (.ref p), some (.ref t), some (.int (a : Int)), some (.int (m : Int)), some (.int (e : Int)), some (.int (n : Int)), some (.int ((n : Int) + 3)), v7] ∧ Same H H1) ⟨_, rfl, fun _ _ e => e⟩ ?_ ?_
    · rintro i σ H1 hi ⟨v7, rfl, s1⟩
      have hj : a + i < ws.length := by omega
      have hgj : ((ws.map mk).map V.str)[a + i]? = some (.str (mk ws[a + i])) := by
        rw [List.getElem?_map, List.getElem?_map, List.getElem?_eq_getElem hj]
        rfl
      have lj := hs.2 _ (List.getElem_mem hj)
      have hb := bl (a + i) _ (by omega) (by omega) (List.getElem?_eq_getElem hj)
      refine ⟨.ref p, rfl, .int ((a : Int) + (i : Nat)), rfl, p, _, _, .str (mk ws[a + i]), rfl, rfl, SqL.of (s1 _ _ hp), ?_, .int _, rfl, _, rfl, .int _, rfl, _, _, rfl, rfl, _, rfl, mk ws[a + i], rfl, by rw [mk_len]; exact line_of (by omega), by show 2 ≤ sizeLine; decide, fun T nT => ⟨T, _, rfl, .inr (SqT.of upd_same), rfl, rfl, _, rfl, ?_⟩⟩
      · rw [show ((a : Int) + (i : Nat)) = ((a + i : Nat) : Int) by omega]
        exact atI_nat hgj
      rw [if_pos rfl, hb]
      exact iteF ⟨_, rfl, s1.trans (same_new nT)⟩
    · rintro σ H1 ⟨v7, rfl, s1⟩
      refine ⟨.ref p, rfl, .int (a : Int), rfl, _, _, rfl, rfl, .int (m : Int), rfl, .int (n : Int), rfl, " ", _, rfl, rfl, mo, _, ".", rfl, rfl, ?_, p, ws, a + 1, m, _, rfl, s1 _ _ hp, by omega, by omega, hs, src, ?_⟩
      · have : (".": Str).length = 1 := rfl
        exact line_of (by omega)
      exact ⟨.ref p, rfl, .int (m : Int), rfl, .int (e : Int), rfl, .int (n : Int), rfl, " ", _, rfl, rfl, mo, p, ws, m, e, _, rfl, s1 _ _ hp, by omega, ew, hs, wnt, k _ s1⟩
theorem rows_bound {x : Str} {init : List (List Nat)} {last : List Nat} (ex : tl x = joinL [10] (init ++ [last])) (hx : x.length ≤ 10000) : (∀ l ∈ rowsOf init last, l.length ≤ 10000) ∧ (rowsOf init last).length ≤ 10002 ∧ ((rowsOf init last).map (·.length)).sum + (rowsOf init last).length ≤ 10001 := by
  have jl := joinL_len [10] (ps := init ++ [last]) (by simp)
  have e1 : ([10] : List Nat).length = 1 := rfl
  rw [e1, List.map_append, List.sum_append, List.length_append, ← ex] at jl
  have c1 : ([last].map (·.length)).sum = last.length := by
    show last.length + 0 = _
    omega
  rw [c1] at jl
  have lt : (tl x).length ≤ 10000 := by rw [← len_tl]; exact hx
  have jp := join_parts (init ++ [last])
  rw [← ex, List.length_append] at jp
  have l1 : [last].length = 1 := rfl
  rw [l1] at jl
  unfold rowsOf ifAny
  refine ⟨fun l hl => ?_, ?_, ?_⟩
  · rcases List.mem_append.mp hl with h | h
    · exact Nat.le_trans (jp.2 l (List.mem_append_left _ h)) lt
    · split at h
      · cases h
      · rw [List.mem_singleton.mp h]
        exact Nat.le_trans (jp.2 last (List.mem_append_right _ (List.mem_singleton.mpr rfl))) lt
  · rw [List.length_append]
    split
    · show _ + 0 ≤ _
      omega
    · omega
  · rw [List.map_append, List.sum_append, List.length_append]
    split
    · show _ + 0 + (_ + 0) ≤ _
      omega
    · rw [c1, l1]
      omega
/-- a line that is blank or a remark -/
def remL (l : List Nat) : Bool := isBlank l || Txt.startswith (Txt.lstripChars (mk l) " \t") "#"
def sp_is_remark : Sp := fun vs H Q _ => ∃ (x : Str) (init : List (List Nat)) (last : List Nat), vs = [.str x] ∧ tl x = joinL [10] (init ++ [last]) ∧ Rows10 (init ++ [last]) ∧ x.length ≤ 10000 ∧ ∀ H', Same H H' → Q (.bl (((rowsOf init last).map remL).all id)) H'
theorem ok_is_remark {f : Addr} {fd : FuncData} {dvs : List V} (F : Fn K "is_remark" s_is_remark dvs f fd) (O_lines_of : Own P w K mg base "lines_of" 2 ["text"] [] (sp_lines_of)) (O_is_blank : Own P w K mg base "is_blank" 1 ["line"] [] (sp_is_blank)) (m_all : mg "all" = none) {t_BLANKS : Tok} (c_BLANKS : mg "BLANKS" = some (.str " \t" t_BLANKS)) : FnOk P w K mg base CX0 3 f fd ["source"] (sp_is_remark) := by
  refine Fn.okN F sc_is_remark (fun vs H Q E h => ?_) (fun cdv A outer s H vs Q E hr h => ?_)
  · obtain ⟨_, _, _, rfl, _⟩ := h
    rfl
  · obtain ⟨x, init, last, rfl, ex, h10, hx, k⟩ := h
    refine ⟨_, (pss_one (ps_ret (pe_callB (cr_all rfl) (by rfl) m_all (by decide +kernel) (pa_cons (pe_lc (own := [("line", 1)]) (g := gName 1) (tt := tYes) (by rfl) sc_is_remark.nd (pi_list (pe_own O_lines_of (hr.mono (by decide)) (by rfl) (pa_cons (pv 0) pa_nil))) (blkOk_by (own := [("line", 1)]) (N := ["source", "line"]) (sc := defScope s_is_remark) (by decide +kernel)) (fun _ _ _ _ _ => (pg_name (i := 1) sc_is_remark.nd rfl (.inl rfl))) (fun _ _ _ _ _ => pts_nil) (fun _ _ _ _ _ => (pe_or (pe_own O_is_blank (hr.mono (by decide)) (by rfl) (pa_cons (pv 1) pa_nil)) (pe_one (pe_m1 PySem.F.slot_str_startswith PySem.F.type_str_startswith mt_startswith (pe_m1 PySem.F.slot_str_lstrip PySem.F.type_str_lstrip mt_lstripChars (pv 1) (pe_glob (v := .str " \t") rfl c_BLANKS ⟨_, rfl⟩)) pe_str))))) pa_nil)))), ?_⟩
    obtain ⟨rb, rn, rs⟩ := rows_bound ex hx
    refine ⟨.str x, rfl, x, init, last, rfl, ex, h10, hx, fun H1 p s1 np ep => ⟨p, rfl, ⟨_, SqL.of ep⟩, fun L nL => ?_⟩⟩
    generalize rowsOf init last = ls at rb rn rs ep k
    refine lc_list (K := K) (a := p) (xs := (ls.map mk).map V.str) (fun i H2 => H2 L = some (.lst (((ls.take i).map remL).map V.bl)) ∧ Same H1 H2) ⟨upd_same, same_new nL⟩ (fun i H2 _ h => SqL.of (h.2 _ _ ep)) ?_ ?_
    · rintro i v H2 hv ⟨eL, s2⟩
      obtain ⟨z, rfl, hz⟩ := str_at hv
      rw [List.getElem?_map] at hz
      obtain ⟨l, hl, rfl⟩ := Option.map_eq_some_iff.mp hz
      have gl := rb l (List.mem_of_getElem? hl)
      have hi : i < ls.length := (List.getElem?_eq_some_iff.mp hl).1
      have sz : (((ls.take i).map remL).map V.bl).length < sizeLine := by
        rw [List.length_map, List.length_map, List.length_take]
        exact Nat.lt_of_le_of_lt (show min i ls.length ≤ 10002 by omega) (by decide)
      have ap : ∀ b, b = remL l → (upd H2 L (.lst (((ls.take i).map remL).map V.bl ++ [.bl b]))) L = some (.lst (((ls.take (i + 1)).map remL).map V.bl)) := fun b hb => by
        rw [upd_same, List.take_add_one, hl, hb, List.map_append, List.map_append]
        rfl
      have sm : ∀ o', Same H1 (upd H2 L o') := fun o' b o e => by
        rw [upd_ne (ne_of_none e nL)]
        exact s2 b o e
      refine ⟨rfl, ?_⟩
      unfold tYes
      show ite (true = true) _ _
      rw [if_pos rfl]
      refine ⟨.str (mk l), rfl, mk l, rfl, by rw [mk_len]; omega, _, rfl, ?_⟩
      rw [show isBlank (tl (mk l)) = isBlank l from rfl]
      cases hb : isBlank l with
      | true => exact iteT ⟨_, eL, sz, ap true (by unfold remL; rw [hb]; rfl), sm _⟩
      | false => exact iteF ⟨.str (mk l), rfl, ⟨_, rfl⟩, mk l, " \t", rfl, rfl, by rw [mk_len]; exact line_of (by omega), ⟨_, rfl⟩, _, "#", rfl, rfl, _, eL, sz, ap _ (by unfold remL; rw [hb]; rfl), sm _⟩
    · rintro H2 ⟨eL, s2⟩
      rw [List.length_map, List.length_map, List.take_length] at eL
      exact ⟨L, ls.map remL, rfl, SqL.of eL, k _ (s1.trans s2)⟩
def lastQ (x : Str) : Int := if Txt.rfind x "\"" > Txt.rfind x "'" then Txt.rfind x "\"" else Txt.rfind x "'"
def markAt (x : Str) (i : Int) : Bool := Txt.startswith (Txt.lstripChars (cutS x (some (i + 1)) none) " \t") "doctest:"
def dirFrom (x : Str) : Nat → Int → Int
  | 0, i => i
  | f + 1, i => if i < 0 then i else if markAt x i = true then i else dirFrom x f (Txt.find3 x "#" (i + 1))
def dirPos (x : Str) : Int := dirFrom x (x.length + 1) (Txt.find3 x "#" (lastQ x + 1))
def dirS (x : Str) : Str := if dirPos x < 0 then "" else cutS x (some (dirPos x)) none
theorem find3_at (x : Str) (i : Int) (h : 0 ≤ i) : Txt.find3 x "#" i = -1 ∨ (i ≤ Txt.find3 x "#" i ∧ Txt.find3 x "#" i < (x.length : Int)) := by
  have e : ("#" : Str) = ⟨#[35]⟩ := ext_tl (by decide +kernel)
  unfold Txt.find3
  rcases StrLaws.occ_head_from x "#" (fromIndex x.length i) 1 (Nat.le_refl _) with ⟨h0, _⟩ | ⟨j, r, h0, h1, hj, _⟩
  · rw [h0]
    exact .inl rfl
  · rw [h0]
    rw [e] at hj
    have hl := (List.getElem?_eq_some_iff.mp (show (tl x)[j]? = some 35 from (StrLaws.subAt_one x 35 j).mp hj)).1
    rw [← len_tl] at hl
    refine .inr ?_
    show i ≤ (j : Int) ∧ (j : Int) < (x.length : Int)
    unfold fromIndex at h1
    rw [if_neg (by omega : ¬ i < 0)] at h1
    omega
theorem rfind_ge (x y : Str) : -1 ≤ Txt.rfind x y := by
  unfold Txt.rfind
  split <;> omega
def sp_directive_of : Sp := fun vs H Q _ => ∃ x : Str, vs = [.str x] ∧ x.length ≤ 10000 ∧ Q (.str (dirS x)) H
theorem ok_directive_of {f : Addr} {fd : FuncData} {dvs : List V} (F : Fn K "directive_of" s_directive_of dvs f fd) (m_max : mg "max" = none) {t_BLANKS : Tok} (c_BLANKS : mg "BLANKS" = some (.str " \t" t_BLANKS)) {t_MARK : Tok} (c_MARK : mg "MARK" = some (.str "doctest:" t_MARK)) : FnOk P w K mg base CX0 1 f fd ["line"] (sp_directive_of) := by
  refine Fn.okN F sc_directive_of (fun vs H Q E h => ?_) (fun cdv A outer s H vs Q E hr h => ?_)
  · obtain ⟨_, rfl, _⟩ := h
    rfl
  · obtain ⟨x, rfl, hx, k⟩ := h
    refine ⟨_, (pss_cons (ps_set (i := 1) sc_directive_of.nd rfl (.inl rfl) (pe_bm PySem.F.plainAttrs_str PySem.F.slot_str_find PySem.F.type_str_find mt_find3 (pv 0) (pa_cons pe_str (pa_cons (pe_op op_add (pe_callB (call_max2 rfl) (by rfl) m_max (by decide +kernel) (pa_cons (pe_m1 PySem.F.slot_str_rfind PySem.F.type_str_rfind mt_rfind (pv 0) pe_str) (pa_cons (pe_m1 PySem.F.slot_str_rfind PySem.F.type_str_rfind mt_rfind (pv 0) pe_str) pa_nil))) pe_int) pa_nil))))
      (pss_cons (ps_while PassesOwn.never (PW.pt (pw_and (pt_cmpR op_ge (pv 1) pe_int (nomark _)) (pw_and1 (pt_not (pt_val (pe_m1 PySem.F.slot_str_startswith PySem.F.type_str_startswith mt_startswith (pe_m1 PySem.F.slot_str_lstrip PySem.F.type_str_lstrip mt_lstripChars (pe_slice sl_str (pv 0) (po_some (pe_op op_add (pv 1) pe_int)) po_none) (pe_glob (v := .str " \t") rfl c_BLANKS ⟨_, rfl⟩)) (pe_glob (v := .str "doctest:") rfl c_MARK ⟨_, rfl⟩)))))))
          (pss_one (ps_set (i := 1) sc_directive_of.nd rfl (.inl rfl) (pe_bm PySem.F.plainAttrs_str PySem.F.slot_str_find PySem.F.type_str_find mt_find3 (pv 0) (pa_cons pe_str (pa_cons (pe_op op_add (pv 1) pe_int) pa_nil))))))
      (pss_one (ps_ret (pe_ifExp (pt_cmpR op_lt (pv 1) pe_int (nomark _)) pe_str (pe_slice sl_str (pv 0) (po_some (pv 1)) po_none)))))), ?_⟩
    have zx : x.length ≤ sizeLine := line_of (by omega)
    refine ⟨.str x, rfl, rfl, .str x, rfl, ⟨_, rfl⟩, x, "'", rfl, rfl, .str x, rfl, ⟨_, rfl⟩, x, "\"", rfl, rfl, _, _, rfl, _, _, rfl, rfl, x, "#", _, rfl, rfl, ?_⟩
    refine while_by (fun σ H1 => ∃ (f : Nat) (i : Int), σ = [some (.str x), some (.int i)] ∧ H = H1 ∧ dirFrom x f i = dirPos x ∧ (i < 0 ∨ ((x.length : Int) - i < f ∧ i < x.length))) (fun σ _ => match σ with | [_, some (.int z)] => if z < 0 then 0 else (x.length - z).toNat + 1 | _ => 0) ⟨x.length + 1, _, rfl, rfl, rfl, ?_⟩ ?_ (mo_and (mo_test (mo_op mo_I0 mo_var mo_const)) (mo_not (mo_B (mo_m1 (fun x xs H Q Q' i ⟨a, b, e1, e2, q⟩ => ⟨a, b, e1, e2, i _ _ q⟩) (mo_m1 (fun x xs H Q Q' i ⟨a, b, e1, e2, e3, q⟩ => ⟨a, b, e1, e2, e3, i _ _ q⟩) ?_ mo_const) mo_const))))
    · have lq : 0 ≤ lastQ x + 1 := by
        have r1 := rfind_ge x "\""
        have r2 := rfind_ge x "'"
        unfold lastQ
        split <;> omega
      rcases find3_at x (lastQ x + 1) lq with h | h
      · exact .inl (by show Txt.find3 x "#" (lastQ x + 1) < 0; omega)
      · refine .inr ?_
        show (x.length : Int) - Txt.find3 x "#" (lastQ x + 1) < ((x.length + 1 : Nat) : Int) ∧ Txt.find3 x "#" (lastQ x + 1) < (x.length : Int)
        omega
    · rintro σ H1 ⟨f, i, rfl, rfl, hf, hi⟩
      refine ⟨.int i, rfl, _, _, rfl, rfl, _, rfl, ?_⟩
      rcases Int.lt_or_le i 0 with h | h
      · rw [decide_eq_false (by omega)]
        refine iteF (iteF ⟨.int i, rfl, _, _, rfl, rfl, _, rfl, ?_⟩)
        rw [decide_eq_true h]
        have e1 : dirFrom x f i = i := by
          cases f with
          | zero => rfl
          | succ f => rw [dirFrom, if_pos h]
        unfold dirS at k
        rw [← hf, e1, if_pos h] at k
        exact iteT k
      · rw [decide_eq_true h]
        have hi2 := hi.resolve_left (by omega)
        cases f with
        | zero => exact absurd hi2.1 (by omega)
        | succ f =>
          rw [dirFrom, if_neg (by omega)] at hf
          refine iteT ⟨.str x, rfl, .int i, rfl, _, _, rfl, rfl, _, rfl, x, rfl, zx, ⟨_, rfl⟩, _, " \t", rfl, rfl, Nat.le_trans (cutS_length _ _ _) zx, ⟨_, rfl⟩, _, "doctest:", rfl, rfl, _, rfl, ?_⟩
          show ite ((!markAt x i) = true) _ _
          cases hm : markAt x i with
          | true =>
            rw [hm, if_pos rfl] at hf
            refine iteF ⟨.int i, rfl, _, _, rfl, rfl, _, rfl, ?_⟩
            rw [decide_eq_false (by omega)]
            unfold dirS at k
            rw [← hf, if_neg (by omega)] at k
            exact iteF ⟨.str x, rfl, .int i, rfl, _, rfl, x, rfl, zx, k⟩
          | false =>
            rw [hm, if_neg Bool.false_ne_true] at hf
            have fa := find3_at x (i + 1) (by omega)
            refine iteT ⟨.str x, rfl, rfl, .int i, rfl, _, _, rfl, rfl, x, "#", _, rfl, rfl, ⟨f, _, rfl, rfl, hf, by omega⟩, ?_⟩
            show (if Txt.find3 x "#" (i + 1) < 0 then 0 else ((x.length : Int) - Txt.find3 x "#" (i + 1)).toNat + 1) < (if i < 0 then 0 else ((x.length : Int) - i).toNat + 1)
            rw [if_neg (show ¬ i < 0 by omega)]
            split <;> omega
    · rintro σ H Q Q' i ⟨v1, e1, v2, e2, a, b, e3, e4, j, e5, z, e6, e7, q⟩
      exact ⟨v1, e1, v2, e2, a, b, e3, e4, j, e5, z, e6, e7, i _ _ q⟩
def sp_bare_line : Sp := fun vs H Q _ => ∃ x : Str, vs = [.str x] ∧ x.length ≤ 10000 ∧ Q (.str (Txt.rstripChars (Txt.removesuffix x (dirS x)) " \t")) H
theorem ok_bare_line {f : Addr} {fd : FuncData} {dvs : List V} (F : Fn K "bare_line" s_bare_line dvs f fd) (O_directive_of : Own P w K mg base "directive_of" 1 ["line"] [] (sp_directive_of)) {t_BLANKS : Tok} (c_BLANKS : mg "BLANKS" = some (.str " \t" t_BLANKS)) : FnOk P w K mg base CX0 2 f fd ["line"] (sp_bare_line) := by
  refine Fn.okN F sc_bare_line (fun vs H Q E h => ?_) (fun cdv A outer s H vs Q E hr h => ?_)
  · obtain ⟨_, rfl, _⟩ := h
    rfl
  · obtain ⟨x, rfl, hx, k⟩ := h
    refine ⟨_, (pss_one (ps_ret (pe_m1 PySem.F.slot_str_rstrip PySem.F.type_str_rstrip mt_rstripChars (pe_m1 PySem.F.slot_str_removesuffix PySem.F.type_str_removesuffix mt_removesuffix (pv 0) (pe_own O_directive_of (hr.mono (by decide)) (by rfl) (pa_cons (pv 0) pa_nil))) (pe_glob (v := .str " \t") rfl c_BLANKS ⟨_, rfl⟩)))), ?_⟩
    have zx : x.length ≤ sizeLine := line_of (by omega)
    exact ⟨.str x, rfl, ⟨_, rfl⟩, .str x, rfl, x, rfl, hx, x, dirS x, rfl, rfl, zx, ⟨_, rfl⟩, _, " \t", rfl, rfl, Nat.le_trans (rsuf_len _ _) zx, k⟩
/-- a source line without its directive, and without blanks at its end -/
def bareS (l : List Nat) : List Nat := tl (Txt.rstripChars (Txt.removesuffix (mk l) (dirS (mk l))) " \t")
theorem bareS_len (l : List Nat) : (bareS l).length ≤ l.length := by
  have a := rsuf_len (mk l) (dirS (mk l))
  have b : (Txt.rstripChars (Txt.removesuffix (mk l) (dirS (mk l))) " \t").length ≤ (Txt.removesuffix (mk l) (dirS (mk l))).length := len_stripBy _ _ _ _
  rw [mk_len] at a
  unfold bareS
  rw [← len_tl]
  omega
def sp_bare_of : Sp := fun vs H Q _ => ∃ (x : Str) (init : List (List Nat)) (last : List Nat), vs = [.str x] ∧ tl x = joinL [10] (init ++ [last]) ∧ Rows10 (init ++ [last]) ∧ x.length ≤ 10000 ∧ ∀ H', Same H H' → Q (.str (mk (joinL [] ((rowsOf init last).map fun l => bareS l ++ [10])))) H'
theorem ok_bare_of {f : Addr} {fd : FuncData} {dvs : List V} (F : Fn K "bare_of" s_bare_of dvs f fd) (O_lines_of : Own P w K mg base "lines_of" 2 ["text"] [] (sp_lines_of)) (O_bare_line : Own P w K mg base "bare_line" 2 ["line"] [] (sp_bare_line)) : FnOk P w K mg base CX0 3 f fd ["source"] (sp_bare_of) := by
  refine Fn.okN F sc_bare_of (fun vs H Q E h => ?_) (fun cdv A outer s H vs Q E hr h => ?_)
  · obtain ⟨_, _, _, rfl, _⟩ := h
    rfl
  · obtain ⟨x, init, last, rfl, ex, h10, hx, k⟩ := h
    refine ⟨_, (pss_one (ps_ret (pe_m1 PySem.F.slot_str_join PySem.F.type_str_join mt_join pe_str (pe_lc (own := [("line", 1)]) (g := gName 1) (tt := tYes) (by rfl) sc_bare_of.nd (pi_list (pe_own O_lines_of (hr.mono (by decide)) (by rfl) (pa_cons (pv 0) pa_nil))) (blkOk_by (own := [("line", 1)]) (N := ["source", "line"]) (sc := defScope s_bare_of) (by decide +kernel)) (fun _ _ _ _ _ => (pg_name (i := 1) sc_bare_of.nd rfl (.inl rfl))) (fun _ _ _ _ _ => pts_nil) (fun _ _ _ _ _ => (pe_op op_add_str (pe_own O_bare_line (hr.mono (by decide)) (by rfl) (pa_cons (pv 1) pa_nil)) pe_str)))))), ?_⟩
    obtain ⟨rb, rn, rs⟩ := rows_bound ex hx
    refine ⟨⟨_, rfl⟩, .str x, rfl, x, init, last, rfl, ex, h10, hx, fun H1 p s1 np ep => ⟨p, rfl, ⟨_, SqL.of ep⟩, fun L nL => ?_⟩⟩
    generalize rowsOf init last = ls at rb rn rs ep k
    refine lc_list (K := K) (a := p) (xs := (ls.map mk).map V.str) (fun i H2 => H2 L = some (rowsV ((ls.take i).map fun l => bareS l ++ [10])) ∧ Same H1 H2) ⟨upd_same, same_new nL⟩ (fun i H2 _ h => SqL.of (h.2 _ _ ep)) ?_ ?_
    · rintro i v H2 hv ⟨eL, s2⟩
      obtain ⟨z, rfl, hz⟩ := str_at hv
      rw [List.getElem?_map] at hz
      obtain ⟨l, hl, rfl⟩ := Option.map_eq_some_iff.mp hz
      have gl := rb l (List.mem_of_getElem? hl)
      have hi : i < ls.length := (List.getElem?_eq_some_iff.mp hl).1
      have bl := bareS_len l
      have l1 : ("\n" : Str).length = 1 := rfl
      refine ⟨rfl, ?_⟩
      unfold tYes
      show ite (true = true) _ _
      rw [if_pos rfl]
      refine ⟨.str (mk l), rfl, mk l, rfl, by rw [mk_len]; omega, _, _, rfl, rfl, ?_, _, eL, ?_, ?_, fun b o e => ?_⟩
      · rw [l1, len_tl]
        exact line_of (show (bareS l).length + 1 ≤ _ by omega)
      · rw [List.length_map, List.length_map, List.length_map, List.length_take]
        exact Nat.lt_of_le_of_lt (show min i ls.length ≤ 10002 by omega) (by decide)
      · rw [upd_same, List.take_add_one, hl, List.map_append]
        unfold rowsV
        rw [List.map_append, List.map_append]
        exact congrArg (fun v => some (HO.lst ((((ls.take i).map fun l => bareS l ++ [10]).map mk).map V.str ++ [v]))) (congrArg V.str (ext_tl (by rw [tl_append]; rfl)))
      · rw [upd_ne (ne_of_none e nL)]
        exact s2 b o e
    · rintro H2 ⟨eL, s2⟩
      rw [List.length_map, List.length_map, List.take_length] at eL
      refine ⟨"", L, (ls.map fun l => bareS l ++ [10]).map mk, rfl, rfl, .inl (SqL.of eL), ?_, ?_⟩
      · have e0 : ("" : Str).length = 0 := by decide +kernel
        rw [e0, Nat.mul_zero, List.map_map, List.map_map]
        have sb := sum_map_le (fun l : List Nat => (mk (bareS l ++ [10])).length) (fun l => (l ++ [10]).length) ls fun l _ => by
          have := bareS_len l
          show (mk (bareS l ++ [10])).length ≤ (l ++ [10]).length
          rw [mk_len, List.length_append, List.length_append]
          omega
        have sf := sum_fed ls
        rw [List.map_map] at sf
        show (ls.map fun l => (mk (bareS l ++ [10])).length).sum + 0 ≤ _
        have sf2 : (ls.map fun l => (l ++ [10]).length).sum = (ls.map (·.length)).sum + ls.length := sf
        omega
      · have e0 : ("" : Str) = mk [] := ext_tl (by decide +kernel)
        rw [e0, join_mk]
        exact k _ (s1.trans s2)
theorem dirS_sub (x : Str) : sgSub (dirS x) x ∧ (dirS x).length ≤ x.length := by
  unfold dirS
  split
  · exact ⟨fun c hc => (by cases hc), Nat.zero_le _⟩
  · exact cut_sub x _ _
/-- the words of the directive of a line -/
def dwS (x : Str) : List Str := wordsS (Txt.replace (behindC (dirS x)) "," " ")
def dwL (l : List Nat) : List Str := dwS (mk l)
def sp_directive_words : Sp := fun vs H Q _ => ∃ x : Str, vs = [.str x] ∧ x.length ≤ 10000 ∧ 9 ∉ tl x ∧ 10 ∉ tl x ∧ ∀ (H' : Hp) (p : Addr), Same H H' → H p = none → H' p = some (.lst ((dwS x).map V.str)) → Q (.ref p) H'
theorem ok_directive_words {f : Addr} {fd : FuncData} {dvs : List V} (F : Fn K "directive_words" s_directive_words dvs f fd) (O_words_of : Own P w K mg base "words_of" 1 ["text"] [] (sp_words_of)) (O_directive_of : Own P w K mg base "directive_of" 1 ["line"] [] (sp_directive_of)) : FnOk P w K mg base CX0 2 f fd ["line"] (sp_directive_words) := by
  refine Fn.okN F sc_directive_words (fun vs H Q E h => ?_) (fun cdv A outer s H vs Q E hr h => ?_)
  · obtain ⟨_, rfl, _⟩ := h
    rfl
  · obtain ⟨x, rfl, hx, h9, h10, k⟩ := h
    refine ⟨_, (pss_one (ps_ret (pe_own O_words_of (hr.mono (by decide)) (by rfl) (pa_cons (pe_replK (ek_ix ix_tup (pe_m1 PySem.F.slot_str_partition PySem.F.type_str_partition mt_partition (pe_own O_directive_of (hr.mono (by decide)) (by rfl) (pa_cons (pv 0) pa_nil)) pe_str) (fun _ _ => rfl)) (by decide +kernel)) pa_nil)))), ?_⟩
    have d := dirS_sub x
    have b := behind_sub (dirS x)
    have e44 : ("," : Str) = ⟨[44].toArray⟩ := ext_tl (by decide +kernel)
    have l1 : (" " : Str).length = 1 := rfl
    have tr := replace_map (behindC (dirS x)) 44 32
    refine ⟨.str x, rfl, x, rfl, hx, ⟨_, rfl⟩, dirS x, ":", rfl, rfl, by decide +kernel, line_of (by omega), fun T nT => ?_⟩
    have sT := same_new (o := .tup [.str (Txt.partition (dirS x) ":").1, .str (Txt.partition (dirS x) ":").2.1, .str (Txt.partition (dirS x) ":").2.2]) nT
    have mem : ∀ c, (c = 9 ∨ c = 10) → c ∉ tl (Txt.replace (behindC (dirS x)) "," " ") := fun c hc h => by
      rw [e44, sp_eq, tr] at h
      obtain ⟨d0, h0, h1⟩ := List.mem_map.mp h
      split at h1
      · omega
      · subst h1
        have := d.1 _ (b.1 _ h0)
        rcases hc with rfl | rfl
        · exact h9 this
        · exact h10 this
    have lr : (Txt.replace (behindC (dirS x)) "," " ").length = (behindC (dirS x)).length := by
      rw [len_tl, e44, sp_eq, tr, List.length_map, ← len_tl]
    refine ⟨T, _, 2, .str (Txt.partition (dirS x) ":").2.2, rfl, rfl, SqT.of upd_same, atI_nat (j := 2) rfl, behindC (dirS x), rfl, by rw [l1]; omega, _, rfl, mem 9 (.inl rfl), mem 10 (.inr rfl), by rw [lr]; omega, fun H1 p s1 np ep => ?_⟩
    exact k _ p (sT.trans s1) (sT.free np) ep
/-- a text among texts -/
def has (x : Str) (l : List Str) : Bool := l.any fun y => y == x
theorem inV_str (x : Str) (l : List Str) : inV (.str x) (l.map V.str) = has x l := by
  unfold inV has
  rw [List.any_map]
  rfl
theorem flat_strs (l : List Str) : (l.map V.str).all flatV = true := by
  rw [List.all_map]
  exact List.all_eq_true.mpr fun _ _ => rfl
def sp_is_flag : Sp := fun vs H Q _ => ∃ x : Str, vs = [.str x] ∧ Q (.bl (has x v_FLAGS)) H
theorem ok_is_flag {f : Addr} {fd : FuncData} {dvs : List V} (F : Fn K "is_flag" s_is_flag dvs f fd) (m_isinstance : mg "isinstance" = none) (m_str : mg "str" = none) {a_FLAGS : Addr} (c_FLAGS : mg "FLAGS" = some (.ref a_FLAGS)) (q_FLAGS : ∀ H, SqT K H a_FLAGS (v_FLAGS.map V.str)) : FnOk P w K mg base CX0 1 f fd ["thing"] (sp_is_flag) := by
  refine Fn.okN F sc_is_flag (fun vs H Q E h => ?_) (fun cdv A outer s H vs Q E hr h => ?_)
  · obtain ⟨_, rfl, _⟩ := h
    rfl
  · obtain ⟨x, rfl, k⟩ := h
    refine ⟨_, (pss_one (ps_ret (pe_and (pe_callB call_isi (by rfl) m_isinstance (by decide +kernel) (pa_cons (pv 0) (pa_cons (pe_bltn (v := .ty "str") (by rfl) m_str (by decide +kernel) rfl) pa_nil))) (pe_one (pe_cmpR op_in_seq (pv 0) (pe_glob (v := .ref a_FLAGS) rfl c_FLAGS rfl) rfl))))), ?_⟩
    refine ⟨_, rfl, _, _, _, _, true, rfl, .ty "str", .base (.str x), kit_ty (by decide +kernel), true, rfl, ?_⟩
    refine ⟨_, rfl, a_FLAGS, _, rfl, .inr (q_FLAGS H), rfl, flat_strs _, ?_⟩
    show Q (.bl (inV (.str x) (v_FLAGS.map V.str))) H
    rw [inV_str]
    exact k
/-- an option word: a sign that turns on or off, and a flag -/
def okW (w : Str) : Bool := inV (.str (cutS w none (some 1))) [.str "+", .str "-"] && has (cutS w (some 1) none) v_FLAGS
def sp_is_option_word : Sp := fun vs H Q _ => ∃ x : Str, vs = [.str x] ∧ x.length ≤ 100000 ∧ ∀ H', Same H H' → Q (.bl (okW x)) H'
theorem ok_is_option_word {f : Addr} {fd : FuncData} {dvs : List V} (F : Fn K "is_option_word" s_is_option_word dvs f fd) (O_is_flag : Own P w K mg base "is_flag" 1 ["thing"] [] (sp_is_flag)) : FnOk P w K mg base CX0 2 f fd ["word"] (sp_is_option_word) := by
  refine Fn.okN F sc_is_option_word (fun vs H Q E h => ?_) (fun cdv A outer s H vs Q E hr h => ?_)
  · obtain ⟨_, rfl, _⟩ := h
    rfl
  · obtain ⟨x, rfl, hx, k⟩ := h
    refine ⟨_, (pss_one (ps_ret (pe_and (pe_cmpR op_in_seq (pe_slice sl_str (pv 0) po_none (po_some pe_int)) (pe_tup (pa_cons pe_str (pa_cons pe_str pa_nil))) rfl) (pe_one (pe_own O_is_flag (hr.mono (by decide)) (by rfl) (pa_cons (pe_slice sl_str (pv 0) (po_some pe_int) po_none) pa_nil)))))), ?_⟩
    have zx : x.length ≤ sizeLine := line_of (by omega)
    refine ⟨.str x, rfl, 1, rfl, x, rfl, zx, by show 2 ≤ sizeLine; decide, fun T nT => ?_⟩
    have sT := same_new (o := .tup [.str "+", .str "-"]) nT
    refine ⟨T, _, rfl, .inr (SqT.of upd_same), rfl, rfl, _, rfl, ?_⟩
    unfold okW at k
    cases hc : inV (.str (cutS x none (some 1))) [.str "+", .str "-"] with
    | false =>
      rw [hc] at k
      exact iteF (k _ sT)
    | true =>
      rw [hc] at k
      exact iteT ⟨.str x, rfl, 1, rfl, x, rfl, zx, _, rfl, k _ sT⟩
/-- the options that words tell -/
def putO (kvs : List (Key × V)) (w : Str) : List (Key × V) := putK kvs (Sum.inr (cutS w (some 1) none)) (.bl (decide (V.str (cutS w none (some 1)) = V.str "+")))
def wordsAll (ls : List (List Nat)) : List Str := (ls.map dwL).flatten
def optsOf (ls : List (List Nat)) : List (Key × V) := (wordsAll ls).foldl putO []
structure OptsOk (ls : List (List Nat)) : Prop where
  ok : ∀ l ∈ ls, ∀ w ∈ dwL l, okW w = true
  few : (wordsAll ls).length ≤ 100000
theorem wa_app (a b : List (List Nat)) : wordsAll (a ++ b) = wordsAll a ++ wordsAll b := by
  unfold wordsAll
  rw [List.map_append, List.flatten_append]
theorem wa_take (ls : List (List Nat)) (i : Nat) : (wordsAll (ls.take i)).length ≤ (wordsAll ls).length := by
  have e := congrArg List.length (wa_app (ls.take i) (ls.drop i))
  rw [List.take_append_drop, List.length_append] at e
  omega
theorem wa_mem {ls : List (List Nat)} {l : List Nat} (h : l ∈ ls) : (dwL l).length ≤ (wordsAll ls).length := by
  obtain ⟨a, b, rfl⟩ := List.append_of_mem h
  rw [wa_app, List.length_append]
  have : (wordsAll (l :: b)).length = (dwL l).length + (wordsAll b).length := by
    unfold wordsAll
    rw [List.map_cons, List.flatten_cons, List.length_append]
  omega
theorem rows_mem {init : List (List Nat)} {last l : List Nat} (h : l ∈ rowsOf init last) : l ∈ init ++ [last] := by
  rcases List.mem_append.mp h with h | h
  · exact List.mem_append_left _ h
  · unfold ifAny at h
    split at h
    · cases h
    · exact List.mem_append_right _ h
theorem joinL_mem {S : List Nat} {c : Nat} {l : List Nat} : ∀ {ls : List (List Nat)}, l ∈ ls → c ∈ l → c ∈ joinL S ls
  | [], h, _ => by cases h
  | [a], h, hc => by
    rw [List.mem_singleton.mp h] at hc
    exact hc
  | a :: b :: r, h, hc => by
    rw [joinL_more _ _ (by simp)]
    rcases List.mem_cons.mp h with rfl | h
    · exact List.mem_append_left _ hc
    · exact List.mem_append_right _ (List.mem_append_right _ (joinL_mem h hc))
theorem putO_len (kvs : List (Key × V)) (w : Str) : (putO kvs w).length ≤ kvs.length + 1 := by
  unfold putO putK
  split
  · rw [List.length_map]
    omega
  · rw [List.length_append]
    exact Nat.le_refl _
theorem fold_len : ∀ (ws : List Str) (kvs : List (Key × V)), (ws.foldl putO kvs).length ≤ kvs.length + ws.length
  | [], _ => Nat.le_refl _
  | w :: r, kvs => by
    have := fold_len r (putO kvs w)
    have := putO_len kvs w
    rw [List.foldl_cons, List.length_cons]
    omega
theorem okW_cons {w : Str} (h : okW w = true) : ∃ c r, tl w = c :: r := by
  cases e : tl w with
  | cons c r => exact ⟨c, r, rfl⟩
  | nil =>
    exfalso
    have hw : w = mk [] := ext_tl e
    subst hw
    revert h
    unfold okW
    rw [show cutS (mk []) none (some 1) = mk [] from ext_tl (by decide +kernel), show inV (.str (mk [])) [.str "+", .str "-"] = false by decide +kernel]
    intro h
    cases h
theorem words_le (x : Str) {w : Str} (h : w ∈ wordsS x) : w.length ≤ x.length := by
  unfold wordsS at h
  rw [sp_eq] at h
  exact split_mem x (y := [32]) (by simp) (by decide) (List.mem_filter.mp h).1
theorem dw_le {l : List Nat} {w : Str} (h : w ∈ dwL l) : w.length ≤ l.length := by
  have h1 := words_le _ h
  have e44 : ("," : Str) = ⟨[44].toArray⟩ := ext_tl (by decide +kernel)
  have lr : (Txt.replace (behindC (dirS (mk l))) "," " ").length = (behindC (dirS (mk l))).length := by
    rw [len_tl, e44, sp_eq, replace_map (behindC (dirS (mk l))) 44 32, List.length_map, ← len_tl]
  have := (behind_sub (dirS (mk l))).2
  have := (dirS_sub (mk l)).2
  rw [mk_len] at this
  omega
def badW (ls : List (List Nat)) : Option Str := (wordsAll ls).find? fun w => !okW w
def sp_options_of (C : Addr) : Sp := fun vs H Q E => ∃ (x : Str) (init : List (List Nat)) (last : List Nat) (n : Int), vs = [.str x, .int n] ∧ tl x = joinL [10] (init ++ [last]) ∧ Rows10 (init ++ [last]) ∧ x.length ≤ 10000 ∧ (9 : Nat) ∉ tl x ∧ (wordsAll (rowsOf init last)).length ≤ 100000 ∧ ((∀ l ∈ rowsOf init last, ∀ w ∈ dwL l, okW w = true) → ∀ (H' : Hp) (p : Addr), Same H H' → H p = none → H' p = some (.dK (optsOf (rowsOf init last))) → Q (.ref p) H') ∧ ∀ w, badW (rowsOf init last) = some w → ∀ (H' : Hp) (d : Addr), Same H H' → H d = none → H' d = some (.xd [("found", .str w), ("reason", .str "option"), ("line", .int n)]) → E (.ref C) (some d) H'
theorem ok_options_of {f : Addr} {fd : FuncData} {dvs : List V} (F : Fn K "options_of" s_options_of dvs f fd) {C_BadText : Addr} (T_BadText : Err_BadText K mg C_BadText) (O_lines_of : Own P w K mg base "lines_of" 2 ["text"] [] (sp_lines_of)) (O_directive_words : Own P w K mg base "directive_words" 2 ["line"] [] (sp_directive_words)) (O_is_option_word : Own P w K mg base "is_option_word" 2 ["word"] [] (sp_is_option_word)) (O_BadText_init : OwnE P w K mg base "BadText" C_BadText 2 ["self", "line", "reason", "found"] (sp_BadText_init C_BadText)) : FnOk P w K mg base (L2.CX P w) 4 f fd ["source", "number"] (sp_options_of C_BadText) := by
  refine Fn.okX F sc_options_of (fun vs H Q E h => ?_) (fun cdv A outer s H vs Q E hr h => ?_)
  · obtain ⟨_, _, _, _, rfl, _⟩ := h
    rfl
  · obtain ⟨x, init, last, n, rfl, ex, h10, hx, h9, few, k, kE⟩ := h
    refine ⟨_, (pss_cons (ps_set (i := 2) sc_options_of.nd rfl (.inl rfl) pe_dnewK)
      (pss_cons (ps_for (passes_of rfl) rfl (pi_list (pe_own O_lines_of (hr.mono (by decide)) (by rfl) (pa_cons (pv 0) pa_nil))) (pg_name (i := 3) sc_options_of.nd rfl (.inl rfl))
          (pss_one (ps_for (passes_of rfl) rfl (pi_list (pe_own O_directive_words (hr.mono (by decide)) (by rfl) (pa_cons (pv 3) pa_nil))) (pg_name (i := 4) sc_options_of.nd rfl (.inl rfl))
                (pss_cons (ps_if (pt_not (pt_val (pe_own O_is_option_word (hr.mono (by decide)) (by rfl) (pa_cons (pv 4) pa_nil))))
                      (pss_one (ps_raise rfl (takes_of rfl rfl rfl rfl) (pmk_E O_BadText_init (hr.mono (by decide)) (by rfl) (pa_cons (pv 1) (pa_cons pe_str (pa_cons (pv 4) pa_nil))))))
                      pss_nil)
                  (pss_one (ps_dput (hu_of hr) (pv 2) (pe_slice sl_str (pv 4) (po_some pe_int) po_none) (pe_cmpR op_eq (pe_ix ix_str (pv 4) pe_int (fun _ _ => rfl)) pe_str (nomark _)) rfl))))))
      (pss_one (ps_ret (pv 2))))), ?_⟩
    obtain ⟨rb, rn, rs⟩ := rows_bound ex hx
    have r9 : ∀ l ∈ rowsOf init last, (9 : Nat) ∉ l ∧ (10 : Nat) ∉ l := fun l hl => by
      have hm : l ∈ init ++ [last] := rows_mem hl
      refine ⟨fun h => h9 ?_, h10 l hm⟩
      rw [ex]
      exact joinL_mem hm h
    refine fun C nC => ⟨.str x, rfl, x, init, last, rfl, ex, h10, hx, fun H1 p s1 np ep => ⟨p, rfl, ⟨_, SqL.of ep⟩, ?_⟩⟩
    generalize rowsOf init last = ls at rb rn rs few ep r9 k kE
    have sC := same_new (o := .dK []) nC
    have eC := s1 _ _ (upd_same (H := H) (a := C) (o := .dK []))
    have pC : p ≠ C := fun z => by
      rw [z, upd_same] at np
      cases np
    have sH : ∀ b o, H b = some o → H1 b = some o := fun b o e => s1 _ _ (sC _ _ e)
    refine for_list (K := K) (a := p) (xs := (ls.map mk).map V.str) (fun i σ H2 => ∃ v3 v4 : Option V, σ = [some (.str x), some (.int n), some (.ref C), v3, v4] ∧ H2 C = some (.dK (optsOf (ls.take i))) ∧ (∀ b o, b ≠ C → H1 b = some o → H2 b = some o) ∧ (∀ w ∈ wordsAll (ls.take i), okW w = true)) ⟨_, _, rfl, eC, (fun _ _ _ e => e), nofun⟩ (fun i σ H2 _ h => by obtain ⟨_, _, _, _, s, _⟩ := h; exact SqL.of (s _ _ pC ep)) ?_ ?_
    · rintro i v σ H2 hv ⟨v3, v4, rfl, eC2, s2, ok2⟩
      obtain ⟨z, rfl, hz⟩ := str_at hv
      rw [List.getElem?_map] at hz
      obtain ⟨l, hl, rfl⟩ := Option.map_eq_some_iff.mp hz
      have hm := List.mem_of_getElem? hl
      have w1 := wa_take ls i
      have w2 := wa_mem hm
      refine ⟨.str (mk l), rfl, mk l, rfl, by rw [mk_len]; exact rb l hm, (r9 l hm).1, (r9 l hm).2, fun H3 q s3 nq eq => ⟨q, rfl, ⟨_, SqL.of eq⟩, ?_⟩⟩
      have eC3 := s3 _ _ eC2
      have qC : q ≠ C := fun z => by
        rw [z, eC2] at nq
        cases nq
      refine for_list (K := K) (a := q) (xs := (dwS (mk l)).map V.str) (fun j σ H4 => ∃ v3 v4 : Option V, σ = [some (.str x), some (.int n), some (.ref C), v3, v4] ∧ H4 C = some (.dK (((dwL l).take j).foldl putO (optsOf (ls.take i)))) ∧ (∀ b o, b ≠ C → H3 b = some o → H4 b = some o) ∧ (∀ w ∈ (dwL l).take j, okW w = true)) ⟨_, _, rfl, eC3, (fun _ _ _ e => e), nofun⟩ (fun j σ H4 _ h => by obtain ⟨_, _, _, _, s, _⟩ := h; exact SqL.of (s _ _ qC eq)) ?_ ?_
      · rintro j v σ H4 hv4 ⟨v3, v4, rfl, eC4, s4, ok4⟩
        obtain ⟨w, rfl, hw4⟩ := str_at hv4
        have wm := List.mem_of_getElem? hw4
        have wl := dw_le wm
        have wz : w.length ≤ 10000 := Nat.le_trans wl (rb l hm)
        refine ⟨.str w, rfl, w, rfl, by omega, fun H5 s5 => ⟨_, rfl, ?_⟩⟩
        cases ow : okW w with
        | false =>
          have hfind : badW ls = some w := by
            have e0 : wordsAll ls = wordsAll (ls.take i) ++ ((dwL l).take j ++ w :: ((dwL l).drop (j + 1) ++ wordsAll (ls.drop (i + 1)))) := by
              have hil : i < ls.length := (List.getElem?_eq_some_iff.mp hl).1
              have e1 : ls = ls.take i ++ (l :: ls.drop (i + 1)) := by
                have : ls.drop i = l :: ls.drop (i + 1) := by rw [List.drop_eq_getElem_cons hil, (List.getElem?_eq_some_iff.mp hl).2]
                rw [← this, List.take_append_drop]
              have hjl : j < (dwL l).length := (List.getElem?_eq_some_iff.mp hw4).1
              have e2 : dwL l = (dwL l).take j ++ (w :: (dwL l).drop (j + 1)) := by
                have : (dwL l).drop j = w :: (dwL l).drop (j + 1) := by
                  rw [List.drop_eq_getElem_cons hjl]
                  congr 1
                  exact (List.getElem?_eq_some_iff.mp hw4).2
                rw [← this, List.take_append_drop]
              have e3 : wordsAll (l :: ls.drop (i + 1)) = dwL l ++ wordsAll (ls.drop (i + 1)) := rfl
              conv => lhs; rw [e1, wa_app, e3, e2]
              simp
            unfold badW
            rw [e0, List.find?_append, List.find?_eq_none.mpr (fun z hz => by rw [ok2 z hz]; decide), Option.none_or, List.find?_append, List.find?_eq_none.mpr (fun z hz => by rw [ok4 z hz]; decide), Option.none_or, List.find?_cons_of_pos (by rw [ow]; rfl)]
          refine iteT ⟨.int n, rfl, .str w, rfl, by show 3 ≤ 1000; decide, fun a na => ⟨a, n, "option", w, rfl, upd_same, fun H6 d k1 nd nda k2 k3 => ⟨rfl, d, _, k2, k3, ?_, ?_⟩⟩⟩
          · rw [← upd_ne (H := H5) (a := a) (o := exo a C_BadText none) nda]
            exact nd
          · have sA : Same H H5 := fun b o e => by
              have bC : b ≠ C := ne_of_none e nC
              exact s5 _ _ (s4 _ _ bC (s3 _ _ (s2 _ _ bC (sH _ _ e))))
            have nd5 : H5 d = none := by
              rw [← upd_ne (H := H5) (a := a) (o := exo a C_BadText none) nda]
              exact nd
            refine kE w hfind _ d (fun b o e => ?_) (sA.free nd5) upd_same
            have e5 := sA _ _ e
            have ba : b ≠ a := ne_of_none e5 na
            rw [upd_ne (ne_of_none e5 nd5), del_ne ba]
            exact k1 _ _ (by rw [upd_ne ba]; exact e5) ba
        | true =>
        obtain ⟨c, r, hwc⟩ := okW_cons ow
        have zw : w.length ≤ sizeLine := line_of (by omega)
        have e1 : cutS w none (some (1 : Int)) = mk [c] := by
          rw [← mk_tl' w, hwc, cut_one]
          rfl
        have kl := fold_len ((dwL l).take j) (optsOf (ls.take i))
        have kl2 := fold_len (wordsAll (ls.take i)) []
        have l0 : ([] : List (Key × V)).length = 0 := rfl
        rw [l0] at kl2
        rw [List.length_take] at kl
        refine iteF ⟨.str w, rfl, w, 0, c, rfl, rfl, zw, atI_nat (j := 0) (show (tl w)[0]? = some c by rw [hwc]; rfl), rfl, .ref C, rfl, .str w, rfl, 1, rfl, w, rfl, zw, C, _, rfl, DPut.k (k := Sum.inr (cutS w (some 1) none)) (s5 _ _ eC4) ?_, _, _, rfl, ?_, fun b o n e => ?_, fun z hz => ?_⟩
        · have : (optsOf (ls.take i)).length ≤ 0 + (wordsAll (ls.take i)).length := kl2
          have : (((dwL l).take j).foldl putO (optsOf (ls.take i))).length ≤ (optsOf (ls.take i)).length + (dwL l).length := Nat.le_trans kl (by omega)
          exact Nat.lt_of_le_of_lt (show _ ≤ 200000 by omega) (by decide)
        · rw [upd_same, List.take_add_one, show (dwL l)[j]? = some w from hw4, List.foldl_append]
          refine congrArg (fun z => some (HO.dK z)) ?_
          show putK _ _ _ = putO _ w
          unfold putO
          rw [e1]
          rfl
        · rw [upd_ne n]
          exact s5 _ _ (s4 _ _ n e)
        · rw [List.take_add_one, show (dwL l)[j]? = some w from hw4] at hz
          rcases List.mem_append.mp hz with q | q
          · exact ok4 z q
          · rw [List.mem_singleton.mp q]
            exact ow
      · rintro σ H4 ⟨v3, v4, rfl, eC4, s4, ok4⟩
        refine ⟨_, _, rfl, ?_, fun b o n e => s4 _ _ n (s3 _ _ (s2 _ _ n e)), fun z hz => ?_⟩
        rotate_left
        · rw [List.take_add_one, hl, wa_app] at hz
          rcases List.mem_append.mp hz with q | q
          · exact ok2 z q
          · refine ok4 z ?_
            rw [List.length_map]
            show z ∈ (dwL l).take (dwL l).length
            rw [List.take_length]
            have e3 : wordsAll (some l).toList = dwL l ++ [] := rfl
            rw [e3, List.append_nil] at q
            exact q
        rw [eC4, List.length_map]
        have : (dwS (mk l)).take (dwS (mk l)).length = dwS (mk l) := List.take_length
        show some (HO.dK (((dwS (mk l)).take (dwS (mk l)).length).foldl putO (optsOf (ls.take i)))) = _
        rw [this]
        unfold optsOf wordsAll
        rw [List.take_add_one, hl, List.map_append, List.flatten_append, List.foldl_append]
        show _ = some (HO.dK (([dwL l].flatten).foldl putO _))
        rw [List.flatten_cons, List.flatten_nil, List.append_nil]
        rfl
    · rintro σ H2 ⟨v3, v4, rfl, eC2, s2, ok2⟩
      rw [List.length_map, List.length_map, List.take_length] at ok2
      rw [List.length_map, List.length_map, List.take_length] at eC2
      exact ⟨.ref C, rfl, k (fun l hl w hw => ok2 w (List.mem_flatten.mpr ⟨dwL l, List.mem_map.mpr ⟨l, hl, rfl⟩, hw⟩)) _ C (fun b o e => s2 b o (ne_of_none e nC) (s1 _ _ (sC _ _ e))) nC eC2⟩
/-- a dict whose keys are flags -/
def FlagKeys (kvs : List (Key × V)) : Prop := ∀ kv ∈ kvs, ∃ z : Str, kv.1 = Sum.inr z ∧ has z v_FLAGS = true
theorem flagKeys_put {kvs : List (Key × V)} {w : Str} (h : FlagKeys kvs) (hw : okW w = true) : FlagKeys (putO kvs w) := fun kv hk => by
  have hf : has (cutS w (some 1) none) v_FLAGS = true := by
    unfold okW at hw
    rw [Bool.and_eq_true] at hw
    exact hw.2
  unfold putO putK at hk
  split at hk
  · obtain ⟨kv', h1, rfl⟩ := List.mem_map.mp hk
    obtain ⟨z, hz, hz2⟩ := h kv' h1
    refine ⟨z, ?_, hz2⟩
    split
    · exact hz
    · exact hz
  · rcases List.mem_append.mp hk with h1 | h1
    · exact h _ h1
    · rw [List.mem_singleton.mp h1]
      exact ⟨_, rfl, hf⟩
theorem flagKeys_fold : ∀ (ws : List Str) {kvs : List (Key × V)}, FlagKeys kvs → (∀ w ∈ ws, okW w = true) → FlagKeys (ws.foldl putO kvs)
  | [], _, h, _ => h
  | w :: r, kvs, h, hw => flagKeys_fold r (flagKeys_put h (hw w (List.mem_cons_self ..))) fun x hx => hw x (List.mem_cons_of_mem _ hx)
theorem flagKeys_opts {ls : List (List Nat)} (h : OptsOk ls) : FlagKeys (optsOf ls) := flagKeys_fold _ (fun kv hk => by cases hk) fun w hw => by
  obtain ⟨x, hx, hwx⟩ := List.mem_flatten.mp hw
  obtain ⟨l, hl, rfl⟩ := List.mem_map.mp hx
  exact h.ok l hl w hwx
def sp_require_flags : Sp := fun vs H Q _ => ∃ (d : Addr) (kvs : List (Key × V)), vs = [.ref d] ∧ H d = some (.dK kvs) ∧ FlagKeys kvs ∧ ∀ H', Same H H' → Q .non H'
theorem ok_require_flags {f : Addr} {fd : FuncData} {dvs : List V} (F : Fn K "require_flags" s_require_flags dvs f fd) (O_is_flag : Own P w K mg base "is_flag" 1 ["thing"] [] (sp_is_flag)) : FnOk P w K mg base CX0 2 f fd ["flags"] (sp_require_flags) := by
  refine Fn.okN F sc_require_flags (fun vs H Q E h => ?_) (fun cdv A outer s H vs Q E hr h => ?_)
  · obtain ⟨_, _, rfl, _⟩ := h
    rfl
  · obtain ⟨d, kvs, rfl, hd, hk, k⟩ := h
    refine ⟨_, (pss_one (ps_lock (ps_for PassesOwn.never rfl (pi_keys (pv 0)) (pg_name (i := 1) sc_require_flags.nd rfl (.inl rfl))
          (pss_one (ps_if (pt_not (pt_val (pe_own O_is_flag (hr.mono (by decide)) (by rfl) (pa_cons (pv 1) pa_nil))))
                (pss_one ps_never)
                pss_nil))))), ?_⟩
    refine ⟨d, .dK kvs, hd, trivial, fun od => ⟨.ref d, rfl, d, od, rfl, .inl ⟨kvs, upd_same, ?_⟩⟩⟩
    refine ⟨fun i m σ H1 => m = kvs.length - i ∧ i ≤ kvs.length ∧ (∃ v1 : Option V, σ = [some (.ref d), v1]) ∧ H1 = upd H d (.frz od (.dK kvs)), ⟨kvs.length, rfl, Nat.zero_le _, ⟨none, rfl⟩, rfl⟩, ?_⟩
    rintro i m σ H1 ⟨rfl, hi, ⟨v1, rfl⟩, rfl⟩
    by_cases hlt : i < kvs.length
    · refine .inr ⟨⟨upd_same, hlt⟩, fun σ' H' => (∃ v1 : Option V, σ' = [some (.ref d), v1]) ∧ H' = upd H d (.frz od (.dK kvs)), fun σ' H' h => ⟨kvs.length - (i + 1), by omega, rfl, hlt, h.1, h.2⟩, ?_⟩
      rintro y H' ⟨rfl, kk, v, hg, rfl⟩
      obtain ⟨z, hz, hf⟩ := hk _ (List.mem_of_getElem? hg)
      have ez : kV kk = .str z := by
        have : kk = Sum.inr z := hz
        rw [this]
        rfl
      rw [ez]
      refine ⟨.str z, rfl, z, rfl, true, by rw [hf], ?_⟩
      exact iteF ⟨⟨_, rfl⟩, rfl⟩
    · refine .inl ⟨⟨upd_same, by omega⟩, upd_same, k _ fun b o e => ?_⟩
      by_cases hb : b = d
      · rw [hb] at e ⊢
        rw [hd] at e
        cases e
        exact upd_same
      · rw [upd_ne hb, upd_ne hb]
        exact e
/-- the fields of an example -/
structure ExF (H : Hp) (fs : List (Str × V)) (src wt : Str) (er : V) (n i : Int) (br : Str) (kv : List (Key × V)) : Prop where
  source : fs.lookup ("source" : Str) = some (.str src)
  want : fs.lookup ("want" : Str) = some (.str wt)
  error : fs.lookup ("error" : Str) = some er
  line : fs.lookup ("line" : Str) = some (.int n)
  indent : fs.lookup ("indent" : Str) = some (.int i)
  options : ∃ o : Addr, fs.lookup ("options" : Str) = some (.ref o) ∧ H o = some (.dK kv)
  bare : fs.lookup ("bare" : Str) = some (.str br)
def bareT (init : List (List Nat)) (last : List Nat) : Str := mk (joinL [] ((rowsOf init last).map fun l => bareS l ++ [10]))
def sp_Example_init (C : Addr) : Sp := fun vs H Q _ => ∃ (x dx : Addr) (op : V) (kv : List (Key × V)) (src wt : Str) (init : List (List Nat)) (last : List Nat) (er : V) (n i : Int), vs = [.ref x, .str src, .str wt, er, .int n, .int i, op] ∧ (tl (fedS src) = joinL [10] (init ++ [last]) ∧ Rows10 (init ++ [last]) ∧ src.length ≤ 100000 ∧ (fedS src).length ≤ 10000) ∧ wt.length ≤ 100000 ∧ (er = .non ∨ ∃ e : Str, er = .str e ∧ e.length ≤ 100000) ∧
  H x = some (.ins C dx []) ∧ (op = .non ∧ kv = [] ∨ ∃ d, op = .ref d ∧ H d = some (.dK kv)) ∧ FlagKeys kv ∧ ∀ (H' : Hp) (fs : List (Str × V)), (∀ b o, H b = some o → b ≠ x → H' b = some o) → H' x = some (.ins C dx fs) → ExF H' fs (fedS src) (wantS wt) (errS er) n i (bareT init last) kv → Q .non H'
theorem ok_Example_init {f : Addr} {fd : FuncData} {dvs : List V} {kws : List (Str × V)} (F : FunD K "__init__" "Example.__init__" (defArgs s_Example_init) (defBody s_Example_init) (defScope s_Example_init) dvs kws f fd) {C_Example : Addr} (T_Example : Txt_Example K mg C_Example) (O_require_flags : Own P w K mg base "require_flags" 2 ["flags"] [] (sp_require_flags)) (O_fed : Own P w K mg base "fed" 1 ["text"] [] (sp_fed)) (O_bare_of : Own P w K mg base "bare_of" 3 ["source"] [] (sp_bare_of)) (m_dict : mg "dict" = none) : FnOk P w K mg base CX0 4 f fd ["self", "source", "want", "error", "line", "indent", "options"] (sp_Example_init C_Example) := by
  refine FunD_okN F sc_Example_init (fun vs H Q E h => ?_) (fun cdv A outer s H vs Q E hr h => ?_)
  · obtain ⟨_, _, _, _, _, _, _, _, _, _, _, rfl, _⟩ := h
    rfl
  · obtain ⟨x, dx, op, kv, src, wt, init, last, er, n, i, rfl, ⟨xe, h10, lsrc, hsl⟩, lw, he, hx, hop, hfk, k⟩ := h
    refine ⟨_, (pss_cut (ps_set (i := 7) sc_Example_init.nd rfl (.inl rfl) (pe_ifExp (pt_cmpR op_isN (pv 6) pe_non (nomark _)) pe_dnewK (pv 6)))
      (pss_cons (ps_expr (pe_own O_require_flags (hr.mono (by decide)) (by rfl) (pa_cons (pv 7) pa_nil)))
      (pss_cons (ps_fld (pv 0) (pe_own O_fed (hr.mono (by decide)) (by rfl) (pa_cons (pv 1) pa_nil)) rfl)
      (pss_cut (ps_fld (pv 0) (pe_ifExp (pt_tr (K' := K) (pv 2)) (pe_own O_fed (hr.mono (by decide)) (by rfl) (pa_cons (pv 2) pa_nil)) (pv 2)) rfl)
      (pss_cut (ps_fld (pv 0) (pe_ifExp (pt_cmpR op_isN (pv 3) pe_non (nomark _)) pe_non (pe_own O_fed (hr.mono (by decide)) (by rfl) (pa_cons (pv 3) pa_nil))) rfl)
      (pss_cons (ps_fld (pv 0) (pv 4) rfl)
      (pss_cons (ps_fld (pv 0) (pv 5) rfl)
      (pss_cons (ps_fld (pv 0) (pe_callTy call_dictD (by rfl) m_dict (by decide +kernel) (pa_cons (pv 7) pa_nil)) rfl)
      (pss_one (ps_fld (pv 0) (pe_own O_bare_of (hr.mono (by decide)) (by rfl) (pa_cons (pe_fldK (K' := K) rfl (pv 0) rfl) pa_nil)) rfl)))))))))), ?_⟩
    refine ⟨fun σ Hx => ∃ d : Addr, σ = [some (.ref x), some (.str src), some (.str wt), some er, some (.int n), some (.int i), some op, some (.ref d)] ∧ Same H Hx ∧ Hx d = some (.dK kv), ?_, ?_⟩
    · refine ⟨op, rfl, rfl, _, rfl, ?_⟩
      rcases hop with ⟨rfl, rfl⟩ | ⟨d, rfl, hd⟩
      · exact iteT (fun d nd => ⟨d, rfl, same_new nd, upd_same⟩)
      · rw [decide_eq_false (show V.ref d ≠ V.non from nofun)]
        exact iteF ⟨.ref d, rfl, d, rfl, fun _ _ e => e, hd⟩
    rintro σ Hx ⟨d, rfl, sx, hd⟩
    have hx0 := sx _ _ hx
    have xd : d ≠ x := fun e => by
      rw [e, hx0] at hd
      cases hd
    refine ⟨.ref d, rfl, d, kv, rfl, hd, hfk, fun H1 s1x => ?_⟩
    have s1 : Same H H1 := sx.trans s1x
    have hd1 := s1x _ _ hd
    have o1 : Out x H H1 := fun b o e _ => s1 _ _ e
    refine ⟨.str src, rfl, src, rfl, lsrc, .ref x, rfl, x, C_Example, dx, [], rfl, s1 _ _ hx, T_Example.cl, T_Example.n_source, by decide, ?_⟩
    have o2 : Out x H (upd H1 x (.ins C_Example dx (putF "source" (.str (fedS src)) []))) := o1.put
    have ex2 : Out x H1 (upd H1 x (.ins C_Example dx (putF "source" (.str (fedS src)) []))) := Out.put (fun b o e _ => e)
    have hd2 := ex2 _ _ hd1 xd
    have e2 : (upd H1 x (.ins C_Example dx (putF "source" (.str (fedS src)) []))) x = some (.ins C_Example dx (putF "source" (.str (fedS src)) [])) := upd_same
    have l2 : (putF "source" (.str (fedS src)) []).length ≤ 1 := put_len (Nat.le_refl 0)
    have k2 : (putF "source" (.str (fedS src)) []).lookup ("source" : Str) = some (.str (fedS src)) := by rw [lookup_putF, if_pos rfl]
    generalize putF "source" (.str (fedS src)) [] = f2 at o2 ex2 hd2 e2 l2 k2 ⊢
    generalize upd H1 x (.ins C_Example dx f2) = H2 at o2 ex2 hd2 e2 ⊢
    clear ex2
    refine ⟨fun σ H3 => ∃ f3 : List (Str × V), σ = [some (.ref x), some (.str src), some (.str wt), some er, some (.int n), some (.int i), some op, some (.ref d)] ∧ Out x H H3 ∧ H3 d = some (.dK kv) ∧ H3 x = some (.ins C_Example dx f3) ∧ f3.length ≤ 2 ∧ f3.lookup ("source" : Str) = some (.str (fedS src)) ∧ f3.lookup ("want" : Str) = some (.str (wantS wt)), ?_, ?_⟩
    · have fin : ∀ y : Str, y = wantS wt → ∃ f3 : List (Str × V), [some (V.ref x), some (.str src), some (.str wt), some er, some (.int n), some (.int i), some op, some (.ref d)] = [some (.ref x), some (.str src), some (.str wt), some er, some (.int n), some (.int i), some op, some (.ref d)] ∧ Out x H (upd H2 x (.ins C_Example dx (putF "want" (.str y) f2))) ∧ (upd H2 x (.ins C_Example dx (putF "want" (.str y) f2))) d = some (.dK kv) ∧ (upd H2 x (.ins C_Example dx (putF "want" (.str y) f2))) x = some (.ins C_Example dx f3) ∧ f3.length ≤ 2 ∧ f3.lookup ("source" : Str) = some (.str (fedS src)) ∧ f3.lookup ("want" : Str) = some (.str (wantS wt)) := fun y hy => by
        subst hy
        exact ⟨_, rfl, o2.put, (Out.put (fun b o e _ => e) : Out x H2 _) _ _ hd2 xd, upd_same, put_len l2, by rw [lookup_putF, if_neg (by decide +kernel), k2], by rw [lookup_putF, if_pos rfl]⟩
      refine ⟨.str wt, rfl, _, ⟨line_of (by omega), rfl⟩, ?_⟩
      cases hc : ((wt.length : Int) != 0) with
      | true => exact iteT ⟨.str wt, rfl, wt, rfl, lw, .ref x, rfl, x, C_Example, dx, f2, rfl, e2, T_Example.cl, T_Example.n_want, by omega, fin _ (by unfold wantS; rw [hc]; rfl)⟩
      | false => exact iteF ⟨.str wt, rfl, .ref x, rfl, x, C_Example, dx, f2, rfl, e2, T_Example.cl, T_Example.n_want, by omega, fin _ (by unfold wantS; rw [hc]; rfl)⟩
    rintro σ H3 ⟨f3, rfl, o3, hd3, e3, l3, k3, w3⟩
    clear e2 l2 k2 o2 hd2
    refine ⟨fun σ H4 => ∃ f4 : List (Str × V), σ = [some (.ref x), some (.str src), some (.str wt), some er, some (.int n), some (.int i), some op, some (.ref d)] ∧ Out x H H4 ∧ H4 d = some (.dK kv) ∧ H4 x = some (.ins C_Example dx f4) ∧ f4.length ≤ 3 ∧ f4.lookup ("source" : Str) = some (.str (fedS src)) ∧ f4.lookup ("want" : Str) = some (.str (wantS wt)) ∧ f4.lookup ("error" : Str) = some (errS er), ?_, ?_⟩
    · have fin : ∀ y : V, y = errS er → ∃ f4 : List (Str × V), [some (V.ref x), some (.str src), some (.str wt), some er, some (.int n), some (.int i), some op, some (.ref d)] = [some (.ref x), some (.str src), some (.str wt), some er, some (.int n), some (.int i), some op, some (.ref d)] ∧ Out x H (upd H3 x (.ins C_Example dx (putF "error" y f3))) ∧ (upd H3 x (.ins C_Example dx (putF "error" y f3))) d = some (.dK kv) ∧ (upd H3 x (.ins C_Example dx (putF "error" y f3))) x = some (.ins C_Example dx f4) ∧ f4.length ≤ 3 ∧ f4.lookup ("source" : Str) = some (.str (fedS src)) ∧ f4.lookup ("want" : Str) = some (.str (wantS wt)) ∧ f4.lookup ("error" : Str) = some (errS er) := fun y hy => by
        subst hy
        exact ⟨_, rfl, o3.put, (Out.put (fun b o e _ => e) : Out x H3 _) _ _ hd3 xd, upd_same, put_len l3, by rw [lookup_putF, if_neg (by decide +kernel), k3], by rw [lookup_putF, if_neg (by decide +kernel), w3], by rw [lookup_putF, if_pos rfl]⟩
      rcases he with rfl | ⟨e, rfl, le⟩
      · exact ⟨.non, rfl, rfl, _, rfl, iteT ⟨.ref x, rfl, x, C_Example, dx, f3, rfl, e3, T_Example.cl, T_Example.n_error, by omega, fin _ rfl⟩⟩
      · refine ⟨.str e, rfl, rfl, _, rfl, ?_⟩
        rw [decide_eq_false (show V.str e ≠ V.non from nofun)]
        exact iteF ⟨.str e, rfl, e, rfl, le, .ref x, rfl, x, C_Example, dx, f3, rfl, e3, T_Example.cl, T_Example.n_error, by omega, fin _ rfl⟩
    rintro σ H4 ⟨f4, rfl, o4, hd4, e4, l4, k4, w4, r4⟩
    clear e3 l3 k3 w3 o3 hd3
    refine ⟨.int n, rfl, .ref x, rfl, x, C_Example, dx, f4, rfl, e4, T_Example.cl, T_Example.n_line, by omega, ?_⟩
    have hd5 := (Out.put (fun b o e _ => e) : Out x H4 (upd H4 x (.ins C_Example dx (putF "line" (.int n) f4)))) _ _ hd4 xd
    have o5 : Out x H (upd H4 x (.ins C_Example dx (putF "line" (.int n) f4))) := o4.put
    have e5 : (upd H4 x (.ins C_Example dx (putF "line" (.int n) f4))) x = some (.ins C_Example dx (putF "line" (.int n) f4)) := upd_same
    have l5 := put_len (f := "line") (v := .int n) l4
    have k5 : (putF "line" (.int n) f4).lookup ("source" : Str) = some (.str (fedS src)) := by rw [lookup_putF, if_neg (by decide +kernel), k4]
    have w5 : (putF "line" (.int n) f4).lookup ("want" : Str) = some (.str (wantS wt)) := by rw [lookup_putF, if_neg (by decide +kernel), w4]
    have n5 : (putF "line" (.int n) f4).lookup ("line" : Str) = some (.int n) := by rw [lookup_putF, if_pos rfl]
    have r5 : (putF "line" (.int n) f4).lookup ("error" : Str) = some (errS er) := by rw [lookup_putF, if_neg (by decide +kernel), r4]
    generalize putF "line" (.int n) f4 = f5 at hd5 o5 e5 l5 k5 w5 n5 r5 ⊢
    generalize upd H4 x (.ins C_Example dx f5) = H5 at hd5 o5 e5 ⊢
    refine ⟨.int i, rfl, .ref x, rfl, x, C_Example, dx, f5, rfl, e5, T_Example.cl, T_Example.n_indent, by omega, ?_⟩
    have hd6 := (Out.put (fun b o e _ => e) : Out x H5 (upd H5 x (.ins C_Example dx (putF "indent" (.int i) f5)))) _ _ hd5 xd
    have o6 : Out x H (upd H5 x (.ins C_Example dx (putF "indent" (.int i) f5))) := o5.put
    have e6 : (upd H5 x (.ins C_Example dx (putF "indent" (.int i) f5))) x = some (.ins C_Example dx (putF "indent" (.int i) f5)) := upd_same
    have l6 := put_len (f := "indent") (v := .int i) l5
    have k6 : (putF "indent" (.int i) f5).lookup ("source" : Str) = some (.str (fedS src)) := by rw [lookup_putF, if_neg (by decide +kernel), k5]
    have w6 : (putF "indent" (.int i) f5).lookup ("want" : Str) = some (.str (wantS wt)) := by rw [lookup_putF, if_neg (by decide +kernel), w5]
    have n6 : (putF "indent" (.int i) f5).lookup ("line" : Str) = some (.int n) := by rw [lookup_putF, if_neg (by decide +kernel), n5]
    have i6 : (putF "indent" (.int i) f5).lookup ("indent" : Str) = some (.int i) := by rw [lookup_putF, if_pos rfl]
    have r6 : (putF "indent" (.int i) f5).lookup ("error" : Str) = some (errS er) := by rw [lookup_putF, if_neg (by decide +kernel), r5]
    generalize putF "indent" (.int i) f5 = f6 at hd6 o6 e6 l6 k6 w6 n6 i6 r6 ⊢
    generalize upd H5 x (.ins C_Example dx f6) = H6 at hd6 o6 e6 ⊢
    refine ⟨.ref d, rfl, d, kv, rfl, Rd.of hd6, fun p np => ⟨.ref x, rfl, x, C_Example, dx, f6, rfl, same_new np _ _ e6, T_Example.cl, T_Example.n_options, by omega, ?_⟩⟩
    have o7 : Out x H (upd (upd H6 p (.dK kv)) x (.ins C_Example dx (putF "options" (.ref p) f6))) := (o6.same (same_new np)).put
    have e7 : (upd (upd H6 p (.dK kv)) x (.ins C_Example dx (putF "options" (.ref p) f6))) x = some (.ins C_Example dx (putF "options" (.ref p) f6)) := upd_same
    have l7 := put_len (f := "options") (v := .ref p) l6
    have k7 : (putF "options" (.ref p) f6).lookup ("source" : Str) = some (.str (fedS src)) := by rw [lookup_putF, if_neg (by decide +kernel), k6]
    have w7 : (putF "options" (.ref p) f6).lookup ("want" : Str) = some (.str (wantS wt)) := by rw [lookup_putF, if_neg (by decide +kernel), w6]
    have n7 : (putF "options" (.ref p) f6).lookup ("line" : Str) = some (.int n) := by rw [lookup_putF, if_neg (by decide +kernel), n6]
    have i7 : (putF "options" (.ref p) f6).lookup ("indent" : Str) = some (.int i) := by rw [lookup_putF, if_neg (by decide +kernel), i6]
    have p7 : (putF "options" (.ref p) f6).lookup ("options" : Str) = some (.ref p) := by rw [lookup_putF, if_pos rfl]
    have px : p ≠ x := fun z => by rw [z, e6] at np; cases np
    have ep7 : (upd (upd H6 p (.dK kv)) x (.ins C_Example dx (putF "options" (.ref p) f6))) p = some (.dK kv) := by rw [upd_ne px]; exact upd_same
    have r7 : (putF "options" (.ref p) f6).lookup ("error" : Str) = some (errS er) := by rw [lookup_putF, if_neg (by decide +kernel), r6]
    generalize putF "options" (.ref p) f6 = f7 at o7 e7 l7 k7 w7 n7 i7 p7 ep7 r7 ⊢
    generalize upd (upd H6 p (.dK kv)) x (.ins C_Example dx f7) = H7 at o7 e7 ep7 ⊢
    refine ⟨.ref x, rfl, x, C_Example, dx, f7, _, rfl, e7, T_Example.cl, T_Example.n_source, k7, fedS src, init, last, rfl, xe, h10, hsl, fun H8 s8 => ?_⟩
    have o8 := o7.same s8
    have e8 := s8 _ _ e7
    refine ⟨.ref x, rfl, x, C_Example, dx, f7, rfl, e8, T_Example.cl, T_Example.n_bare, by omega, k _ (putF "bare" (.str (bareT init last)) f7) o8.put upd_same ⟨?_, ?_, ?_, ?_, ?_, ⟨p, ?_, ?_⟩, ?_⟩⟩
    · rw [lookup_putF, if_neg (by decide +kernel), k7]
    · rw [lookup_putF, if_neg (by decide +kernel), w7]
    · rw [lookup_putF, if_neg (by decide +kernel), r7]
    · rw [lookup_putF, if_neg (by decide +kernel), n7]
    · rw [lookup_putF, if_neg (by decide +kernel), i7]
    · rw [lookup_putF, if_neg (by decide +kernel), p7]
    · rw [upd_ne px]
      exact s8 _ _ ep7
    · rw [lookup_putF, if_pos rfl]
def sp_is_word_sign : Sp := fun vs H Q _ => ∃ c : Nat, vs = [.str ⟨#[c]⟩] ∧ Q (.bl (c == 95 || Txt.isalnum ⟨#[c]⟩)) H
theorem ok_is_word_sign {f : Addr} {fd : FuncData} {dvs : List V} (F : Fn K "is_word_sign" s_is_word_sign dvs f fd) : FnOk P w K mg base CX0 1 f fd ["sign"] (sp_is_word_sign) := by
  refine Fn.okN F sc_is_word_sign (fun vs H Q E h => ?_) (fun cdv A outer s H vs Q E hr h => ?_)
  · obtain ⟨_, rfl, _⟩ := h
    rfl
  · obtain ⟨c, rfl, k⟩ := h
    refine ⟨_, (pss_one (ps_ret (pe_or (pe_cmpR op_eq (pv 0) pe_str (nomark _)) (pe_one (pe_m0 PySem.F.slot_str_isalnum PySem.F.type_str_isalnum mt_isalnum (pv 0)))))), ?_⟩
    refine ⟨.str ⟨#[c]⟩, rfl, rfl, _, rfl, ?_⟩
    rw [us_dec]
    cases h : (c == 95) with
    | true =>
      rw [h, Bool.true_or] at k
      exact iteT k
    | false =>
      rw [h, Bool.false_or] at k
      exact iteF ⟨.str ⟨#[c]⟩, rfl, ⟨_, rfl⟩, _, rfl, rfl, trivial, k⟩
def sp_error_of : Sp := fun vs H Q _ => ∃ (x : Str) (init : List (List Nat)) (last : List Nat), vs = [.str x] ∧ tl x = joinL [10] (init ++ [last]) ∧ Rows10 (init ++ [last]) ∧ x.length ≤ 10000 ∧ ∀ H', Same H H' → Q (optV (errP (keptOf init last))) H'
theorem ok_error_of {f : Addr} {fd : FuncData} {dvs : List V} (F : Fn K "error_of" s_error_of dvs f fd) (O_kept_lines : Own P w K mg base "kept_lines" 1 ["text"] [] (sp_kept_lines)) (O_is_word_sign : Own P w K mg base "is_word_sign" 1 ["sign"] [] (sp_is_word_sign)) (m_len : mg "len" = none) (m_range : mg "range" = none) {a_HEADERS : Addr} (c_HEADERS : mg "HEADERS" = some (.ref a_HEADERS)) (q_HEADERS : ∀ H, SqT K H a_HEADERS (v_HEADERS.map V.str)) : FnOk P w K mg base CX0 2 f fd ["want"] (sp_error_of) := by
  refine Fn.okN F sc_error_of (fun vs H Q E h => ?_) (fun cdv A outer s H vs Q E hr h => ?_)
  · obtain ⟨_, _, _, rfl, _⟩ := h
    rfl
  · obtain ⟨x, init, last, rfl, ex, h10, hx, k⟩ := h
    refine ⟨_, (pss_cons (ps_set (i := 1) sc_error_of.nd rfl (.inl rfl) (pe_own O_kept_lines (hr.mono (by decide)) (by rfl) (pa_cons (pv 0) pa_nil)))
      (pss_cons (ps_if (PW.pt (pw_or (pt_not (pt_tr (K' := K) (pv 1))) (pw_or1 (pt_cmpR op_notIn_seq (pe_m1 PySem.F.slot_str_rstrip PySem.F.type_str_rstrip mt_rstripChars (pe_m1 PySem.F.slot_str_removesuffix PySem.F.type_str_removesuffix mt_removesuffix (pe_ix ix_list (pv 1) pe_int (fun _ _ => rfl)) pe_str) pe_str) (pe_glob (v := .ref a_HEADERS) rfl c_HEADERS rfl) rfl))))
          (pss_one (ps_ret pe_non))
          pss_nil)
      (pss_cons (ps_for PassesOwn.never rfl (pi_range2 rfl m_range (pa_cons pe_int (pa_cons (pe_callB call_len_seq (by rfl) m_len PySem.boot_len (pa_cons (pv 1) pa_nil)) pa_nil))) (pg_name (i := 2) sc_error_of.nd rfl (.inl rfl))
          (pss_one (ps_if (pt_val (pe_own O_is_word_sign (hr.mono (by decide)) (by rfl) (pa_cons (pe_ix ix_str (pe_ix ix_list (pv 1) (pv 2) (fun _ _ => rfl)) pe_int (fun _ _ => rfl)) pa_nil)))
                (pss_one (ps_ret (pe_m1 PySem.F.slot_str_join PySem.F.type_str_join mt_join pe_str (pe_slice sl_list (pv 1) (po_some (pv 2)) po_none))))
                pss_nil)))
      (pss_one (ps_ret pe_non))))), ?_⟩
    have lt : (tl x).length ≤ 10000 := by rw [← len_tl]; exact hx
    have jp := join_parts (init ++ [last])
    have ks := kept_sum init last
    rw [← ex] at jp ks
    rw [List.length_append] at jp
    have hne := kept_ne init last
    have kn : (keptOf init last).length ≤ 10002 := by
      have : [last].length = 1 := rfl
      unfold keptOf ifAny
      rw [List.length_append, List.length_map]
      split
      · show _ + 0 ≤ _
        omega
      · show _ + 1 ≤ _
        omega
    refine ⟨.str x, rfl, x, init, last, rfl, ex, h10, hx, fun H1 p s1 np ep => ?_⟩
    generalize keptOf init last = L at ks hne kn ep k
    cases L with
    | nil => exact ⟨.ref p, rfl, _, .inl ⟨[], SqL.of ep, rfl⟩, iteT (iteT (k _ s1))⟩
    | cons h r =>
      have hh : h.length ≤ 10000 := by
        have : ((h :: r).map (·.length)).sum = h.length + (r.map (·.length)).sum := rfl
        omega
      have hrl : ∀ l ∈ r, l.length ≤ 10000 := fun l hl => by
        have e1 : ((h :: r).map (·.length)).sum = h.length + (r.map (·.length)).sum := rfl
        have e2 : l.length ≤ (r.map (·.length)).sum := le_sum hl
        omega
      have eh : inV (.str (Txt.rstripChars (Txt.removesuffix (mk h) "\n") " ")) (v_HEADERS.map V.str) = isHead (noNl h) := by
        unfold isHead noNl
        rw [mk_tl']
      refine ⟨.ref p, rfl, _, .inl ⟨_, SqL.of ep, rfl⟩, iteF ⟨.ref p, rfl, p, _, 0, .str (mk h), rfl, rfl, SqL.of ep, atI_nat (j := 0) rfl, ⟨_, rfl⟩, mk h, "\n", rfl, rfl, by rw [mk_len]; exact line_of (by omega), ⟨_, rfl⟩, _, " ", rfl, rfl, ?_, a_HEADERS, _, rfl, .inr (q_HEADERS _), rfl, rfl, _, rfl, ?_⟩⟩
      · have : (Txt.removesuffix (mk h) "\n").length ≤ (mk h).length := rsuf_len _ _
        rw [mk_len] at this
        exact line_of (by omega)
      rw [eh]
      unfold errP at k
      dsimp only at k
      cases hd : isHead (noNl h) with
      | false =>
        rw [hd] at k
        exact iteT (k _ s1)
      | true =>
        rw [hd, if_pos rfl] at k
        have hlen : (((h :: r).map mk).map V.str).length = r.length + 1 := by rw [List.length_map, List.length_map]; rfl
        rw [List.length_cons] at kn
        have hne2 : ∀ l ∈ r, l ≠ [] := fun l hl => hne l (List.mem_cons_of_mem _ hl)
        refine iteF ⟨.ref p, rfl, p, _, rfl, .inl (SqL.of ep), ?_⟩
        rw [hlen]
        refine ⟨1, ((r.length + 1 : Nat) : Int), rfl, ⟨by decide, by decide, by omega, by omega⟩, for_range (lo := 1) (n := (((r.length + 1 : Nat) : Int) - 1).toNat) (fun i σ H2 => ∃ v2, σ = [some (.str x), some (.ref p), v2] ∧ Same H1 H2 ∧ ∀ j l, j < i → r[j]? = some l → wordS l = false) ⟨_, rfl, fun _ _ e => e, fun j l a _ => absurd a (Nat.not_lt_zero _)⟩ ?_ ?_⟩
        · rintro i σ H2 hi ⟨v2, rfl, s2, hb⟩
          have hir : i < r.length := by omega
          have ei : (1 : Int) + (i : Nat) = ((i + 1 : Nat) : Int) := by omega
          have hl : r[i]? = some r[i] := List.getElem?_eq_getElem hir
          have hm := List.mem_of_getElem? hl
          have hg : (((h :: r).map mk).map V.str)[i + 1]? = some (.str (mk r[i])) := by
            rw [List.getElem?_map, List.getElem?_map, List.getElem?_cons_succ, hl]
            rfl
          have hll := hrl _ hm
          have hn := hne2 _ hm
          generalize r[i] = l at hl hm hg hll hn
          rw [ei]
          cases l with
          | nil => exact absurd rfl hn
          | cons c l' =>
            refine ⟨.ref p, rfl, .int ((i + 1 : Nat) : Int), rfl, p, _, _, .str (mk (c :: l')), rfl, rfl, SqL.of (s2 _ _ ep), atI_nat hg, mk (c :: l'), 0, c, rfl, rfl, by rw [mk_len]; exact line_of (by omega), atI_nat (j := 0) rfl, c, rfl, _, rfl, ?_⟩
            show if wordS (c :: l') = true then _ else _
            cases hw : wordS (c :: l') with
            | false =>
              refine iteF ⟨_, rfl, s2, fun j l hj hjl => ?_⟩
              rcases Nat.lt_or_ge j i with a | a
              · exact hb j l a hjl
              · have : j = i := by omega
                rw [this, hl] at hjl
                cases hjl
                exact hw
            | true =>
              have dw : (r.dropWhile fun l => !wordS l) = r.drop i := dropWhile_at hl (by rw [hw]; rfl) fun j l' hj hjl => by rw [hb j l' hj hjl]; rfl
              have dc : r.drop i = (c :: l') :: r.drop (i + 1) := by
                rw [List.drop_eq_getElem_cons hir]
                rw [List.getElem?_eq_getElem hir] at hl
                rw [Option.some.inj hl]
              rw [dw] at k
              have ev : optV (flatO (r.drop i)) = .str (mk (joinL [] (r.drop i))) := by rw [dc]; rfl
              rw [ev] at k
              refine iteT ⟨⟨_, rfl⟩, .ref p, rfl, .int ((i + 1 : Nat) : Int), rfl, _, rfl, p, _, rfl, SqL.of (s2 _ _ ep), fun q nq => ?_⟩
              have ec : cutV (((h :: r).map mk).map V.str) (some ((i + 1 : Nat) : Int)) none = ((r.drop i).map mk).map V.str := by
                rw [cutV_drop _ _ (by rw [hlen]; omega), List.map_drop, List.map_drop]
                rfl
              have sq := same_new (o := .lst (((r.drop i).map mk).map V.str)) nq
              rw [ec]
              refine ⟨"", q, (r.drop i).map mk, rfl, rfl, .inl (SqL.of upd_same), ?_, ?_⟩
              · have a1 := drop_sum r i
                have a2 : ((h :: r).map (·.length)).sum = h.length + (r.map (·.length)).sum := rfl
                have e0 : ("" : Str).length = 0 := by decide +kernel
                rw [e0, Nat.mul_zero, List.map_map]
                show ((r.drop i).map (·.length)).sum + 0 ≤ _
                omega
              · have e0 : ("" : Str) = mk [] := ext_tl (by decide +kernel)
                rw [e0, join_mk]
                exact k _ (s1.trans (s2.trans sq))
        · rintro σ H2 ⟨v2, rfl, s2, hb⟩
          rw [dropWhile_none (fun l hl => ?_)] at k
          · exact k _ (s1.trans s2)
          · obtain ⟨j, hj, e⟩ := List.getElem_of_mem hl
            rw [hb j l (by omega) (by rw [List.getElem?_eq_getElem hj, e])]
            rfl
/-- the fields of a comment -/
structure CoF (fs : List (Str × V)) (src wt : Str) (n i : Int) : Prop where
  source : fs.lookup ("source" : Str) = some (.str src)
  want : fs.lookup ("want" : Str) = some (.str wt)
  line : fs.lookup ("line" : Str) = some (.int n)
  indent : fs.lookup ("indent" : Str) = some (.int i)
def sp_Comment_init (C : Addr) : Sp := fun vs H Q _ => ∃ (x dx : Addr) (src wt : Str) (n i : Int), vs = [.ref x, .str src, .str wt, .int n, .int i] ∧ src.length ≤ 100000 ∧ wt.length ≤ 100000 ∧
  H x = some (.ins C dx []) ∧ ∀ (H' : Hp) (fs : List (Str × V)), (∀ b o, H b = some o → b ≠ x → H' b = some o) → H' x = some (.ins C dx fs) → CoF fs (fedS src) (wantS wt) n i → Q .non H'
theorem ok_Comment_init {f : Addr} {fd : FuncData} {dvs : List V} {kws : List (Str × V)} (F : FunD K "__init__" "Comment.__init__" (defArgs s_Comment_init) (defBody s_Comment_init) (defScope s_Comment_init) dvs kws f fd) {C_Comment : Addr} (T_Comment : Txt_Comment K mg C_Comment) (O_fed : Own P w K mg base "fed" 1 ["text"] [] (sp_fed)) : FnOk P w K mg base CX0 2 f fd ["self", "source", "want", "line", "indent"] (sp_Comment_init C_Comment) := by
  refine FunD_okN F sc_Comment_init (fun vs H Q E h => ?_) (fun cdv A outer s H vs Q E hr h => ?_)
  · obtain ⟨_, _, _, _, _, _, rfl, _⟩ := h
    rfl
  · obtain ⟨x, dx, src, wt, n, i, rfl, tn, lw, hx, k⟩ := h
    refine ⟨_, (pss_cons (ps_fld (pv 0) (pe_own O_fed (hr.mono (by decide)) (by rfl) (pa_cons (pv 1) pa_nil)) rfl)
      (pss_cut (ps_fld (pv 0) (pe_ifExp (pt_tr (K' := K) (pv 2)) (pe_own O_fed (hr.mono (by decide)) (by rfl) (pa_cons (pv 2) pa_nil)) (pv 2)) rfl)
      (pss_cons (ps_fld (pv 0) (pv 3) rfl)
      (pss_one (ps_fld (pv 0) (pv 4) rfl))))), ?_⟩
    refine ⟨.str src, rfl, src, rfl, tn, .ref x, rfl, x, C_Comment, dx, [], rfl, hx, T_Comment.cl, T_Comment.n_source, by decide, ?_⟩
    have o2 : Out x H (upd H x (.ins C_Comment dx (putF "source" (.str (fedS src)) []))) := Out.put (fun b o e _ => e)
    have e2 : (upd H x (.ins C_Comment dx (putF "source" (.str (fedS src)) []))) x = some (.ins C_Comment dx (putF "source" (.str (fedS src)) [])) := upd_same
    have l2 : (putF "source" (.str (fedS src)) []).length ≤ 1 := put_len (Nat.le_refl 0)
    have k2 : (putF "source" (.str (fedS src)) []).lookup ("source" : Str) = some (.str (fedS src)) := by rw [lookup_putF, if_pos rfl]
    generalize putF "source" (.str (fedS src)) [] = f2 at o2 e2 l2 k2 ⊢
    generalize upd H x (.ins C_Comment dx f2) = H2 at o2 e2 ⊢
    refine ⟨fun σ H3 => ∃ f3 : List (Str × V), σ = [some (.ref x), some (.str src), some (.str wt), some (.int n), some (.int i)] ∧ Out x H H3 ∧ H3 x = some (.ins C_Comment dx f3) ∧ f3.length ≤ 2 ∧ f3.lookup ("source" : Str) = some (.str (fedS src)) ∧ f3.lookup ("want" : Str) = some (.str (wantS wt)), ?_, ?_⟩
    · have fin : ∀ y : Str, y = wantS wt → ∃ f3 : List (Str × V), [some (V.ref x), some (.str src), some (.str wt), some (.int n), some (.int i)] = [some (.ref x), some (.str src), some (.str wt), some (.int n), some (.int i)] ∧ Out x H (upd H2 x (.ins C_Comment dx (putF "want" (.str y) f2))) ∧ (upd H2 x (.ins C_Comment dx (putF "want" (.str y) f2))) x = some (.ins C_Comment dx f3) ∧ f3.length ≤ 2 ∧ f3.lookup ("source" : Str) = some (.str (fedS src)) ∧ f3.lookup ("want" : Str) = some (.str (wantS wt)) := fun y hy => by
        subst hy
        exact ⟨_, rfl, o2.put, upd_same, put_len l2, by rw [lookup_putF, if_neg (by decide +kernel), k2], by rw [lookup_putF, if_pos rfl]⟩
      refine ⟨.str wt, rfl, _, ⟨line_of (by omega), rfl⟩, ?_⟩
      cases hc : ((wt.length : Int) != 0) with
      | true => exact iteT ⟨.str wt, rfl, wt, rfl, lw, .ref x, rfl, x, C_Comment, dx, f2, rfl, e2, T_Comment.cl, T_Comment.n_want, by omega, fin _ (by unfold wantS; rw [hc]; rfl)⟩
      | false => exact iteF ⟨.str wt, rfl, .ref x, rfl, x, C_Comment, dx, f2, rfl, e2, T_Comment.cl, T_Comment.n_want, by omega, fin _ (by unfold wantS; rw [hc]; rfl)⟩
    rintro σ H3 ⟨f3, rfl, o3, e3, l3, k3, w3⟩
    clear e2 l2 k2 o2
    refine ⟨.int n, rfl, .ref x, rfl, x, C_Comment, dx, f3, rfl, e3, T_Comment.cl, T_Comment.n_line, by omega, ?_⟩
    have o4 : Out x H (upd H3 x (.ins C_Comment dx (putF "line" (.int n) f3))) := o3.put
    have e4 : (upd H3 x (.ins C_Comment dx (putF "line" (.int n) f3))) x = some (.ins C_Comment dx (putF "line" (.int n) f3)) := upd_same
    have l4 := put_len (f := "line") (v := .int n) l3
    refine ⟨.int i, rfl, .ref x, rfl, x, C_Comment, dx, putF "line" (.int n) f3, rfl, e4, T_Comment.cl, T_Comment.n_indent, by omega, k _ _ o4.put upd_same ⟨?_, ?_, ?_, ?_⟩⟩
    · rw [lookup_putF, if_neg (by decide +kernel), lookup_putF, if_neg (by decide +kernel), k3]
    · rw [lookup_putF, if_neg (by decide +kernel), lookup_putF, if_neg (by decide +kernel), w3]
    · rw [lookup_putF, if_neg (by decide +kernel), lookup_putF, if_pos rfl]
    · rw [lookup_putF, if_pos rfl]
theorem joinL_sum : ∀ d : List (List Nat), (joinL [] d).length = (d.map (·.length)).sum
  | [] => rfl
  | a :: r => by rw [joinL_flat, List.length_append, joinL_sum r, List.map_cons, List.sum_cons]
theorem sum_dropW (p : List Nat → Bool) : ∀ r : List (List Nat), ((r.dropWhile p).map (·.length)).sum ≤ (r.map (·.length)).sum
  | [] => Nat.le_refl _
  | a :: r => by
    have ih := sum_dropW p r
    rw [List.dropWhile_cons, List.map_cons, List.sum_cons]
    split
    · omega
    · rw [List.map_cons, List.sum_cons]
      omega
theorem errP_len {R : List (List Nat)} {l : List Nat} (h : errP R = some l) : l.length ≤ (R.map (·.length)).sum := by
  cases R with
  | nil => cases h
  | cons a r =>
    have h2 : (if isHead (noNl a) = true then flatO (r.dropWhile fun l => !wordS l) else none) = some l := h
    have e := sum_dropW (fun l => !wordS l) r
    rw [List.map_cons, List.sum_cons]
    generalize r.dropWhile (fun l => !wordS l) = d at e h2
    split at h2
    · cases d with
      | nil => cases h2
      | cons b q =>
        have h3 : joinL [] (b :: q) = l := Option.some.inj h2
        rw [← h3, joinL_sum]
        omega
    · cases h2
def srcL (ws : List (List Nat)) (a m n : Nat) : List (List Nat) := ((ws.drop a).take (m - a)).map (·.drop n)
def rowsT (ls : List (List Nat)) : Str := mk (joinL [] (ls.map (· ++ [10])))
theorem seg_sum (ws : List (List Nat)) (a k n : Nat) : ((((ws.drop a).take k).map (·.drop n)).map (·.length)).sum ≤ (ws.map (·.length)).sum := by
  have h1 := drop_sum ws a
  generalize ws.drop a = x at h1 ⊢
  have h2 : ((x.take k).map (·.length)).sum ≤ (x.map (·.length)).sum := by
    have e := congrArg List.sum (congrArg (List.map (·.length)) (List.take_append_drop k x))
    rw [List.map_append, List.sum_append] at e
    omega
  have h3 := sum_map_le (fun l : List Nat => (l.drop n).length) (fun l => l.length) (x.take k) fun l _ => by
    show (l.drop n).length ≤ l.length
    rw [List.length_drop]
    omega
  rw [List.map_map]
  exact Nat.le_trans h3 (Nat.le_trans h2 h1)
theorem seg_mem {ws : List (List Nat)} {a k n : Nat} {l : List Nat} (h : l ∈ ((ws.drop a).take k).map (·.drop n)) : ∃ l' ∈ ws, l = l'.drop n := by
  obtain ⟨l', h1, rfl⟩ := List.mem_map.mp h
  exact ⟨l', List.mem_of_mem_drop (List.mem_of_mem_take h1), rfl⟩
theorem seg_len (ws : List (List Nat)) (a k n : Nat) : (((ws.drop a).take k).map (·.drop n)).length ≤ ws.length := by
  rw [List.length_map, List.length_take, List.length_drop]
  omega
theorem putO_ne (kvs : List (Key × V)) (w : Str) : putO kvs w ≠ [] := fun e => by
  unfold putO putK at e
  split at e
  · rename_i h
    rw [List.map_eq_nil_iff] at e
    rw [e] at h
    cases h
  · exact List.append_ne_nil_of_right_ne_nil _ (by simp) e
theorem fold_ne : ∀ (ws : List Str) (kvs : List (Key × V)), kvs ≠ [] → ws.foldl putO kvs ≠ []
  | [], _, h => h
  | w :: r, kvs, _ => fold_ne r _ (putO_ne kvs w)
theorem opts_ne {ls : List (List Nat)} (h : wordsAll ls ≠ []) : optsOf ls ≠ [] := by
  unfold optsOf
  cases e : wordsAll ls with
  | nil => exact absurd e h
  | cons w r => exact fold_ne r _ (putO_ne [] w)
/-- what is wrong of an example or a comment with these source lines: the reason, what was found -/
def badP (sl : List (List Nat)) : Option (Str × Str) := match badW sl with
  | some w => some ("option", w)
  | none => if (sl.all remL && !(wordsAll sl).isEmpty) = true then some ("no example", rowsT sl) else none
theorem badW_none {ls : List (List Nat)} (h : ∀ l ∈ ls, ∀ w ∈ dwL l, okW w = true) : badW ls = none := by
  unfold badW
  rw [List.find?_eq_none]
  intro w hw
  obtain ⟨x, hx, hwx⟩ := List.mem_flatten.mp hw
  obtain ⟨l, hl, rfl⟩ := List.mem_map.mp hx
  rw [h l hl w hwx]
  decide
def sp_piece_at (C D B : Addr) : Sp := fun vs H Q E => ∃ (p t : Addr) (ws : List (List Nat)) (a m e n : Nat), vs = [.ref p, .ref t] ∧ H p = some (rowsV ws) ∧ H t = some (cutV3 (a, m, e)) ∧ Short ws ∧ RightCut ws a m e ∧ Rows10 ws ∧ (ws.map (·.length)).sum + ws.length ≤ 9500 ∧ (∀ l, ws[a]? = some l → lead l = n) ∧ (∀ l ∈ ws, (9 : Nat) ∉ l) ∧ (wordsAll (srcL ws a m (n + 4))).length ≤ 100000 ∧ (badP (srcL ws a m (n + 4)) = none → ∀ (H' : Hp) (q dx : Addr) (fs : List (Str × V)), Same H H' → H q = none →
    (if (srcL ws a m (n + 4)).all remL = true then H' q = some (.ins D dx fs) ∧ CoF fs (rowsT (srcL ws a m (n + 4))) (rowsT (srcL ws m e n)) ((a + 1 : Nat) : Int) (n : Int)
      else H' q = some (.ins C dx fs) ∧ ExF H' fs (rowsT (srcL ws a m (n + 4))) (rowsT (srcL ws m e n)) (optV (errP ((srcL ws m e n).map (· ++ [10])))) ((a + 1 : Nat) : Int) (n : Int) (bareT (srcL ws a m (n + 4)) []) (optsOf (srcL ws a m (n + 4)))) → Q (.ref q) H') ∧ ∀ rf, badP (srcL ws a m (n + 4)) = some rf → ∀ (H' : Hp) (d : Addr), Same H H' → H d = none → H' d = some (.xd [("found", .str rf.2), ("reason", .str rf.1), ("line", .int ((a : Int) + 1))]) → E (.ref B) (some d) H'
theorem ok_piece_at {f : Addr} {fd : FuncData} {dvs : List V} (F : Fn K "piece_at" s_piece_at dvs f fd) {C_Example : Addr} (T_Example : Txt_Example K mg C_Example) {C_Comment : Addr} (T_Comment : Txt_Comment K mg C_Comment) {C_BadText : Addr} (T_BadText : Err_BadText K mg C_BadText) (O_refuse_wrong_lines : OwnX P w K mg base "refuse_wrong_lines" 5 ["lines", "cut"] [] (sp_refuse_wrong_lines)) (O_indent_of : Own P w K mg base "indent_of" 1 ["line"] [] (sp_indent_of)) (O_options_of : OwnX P w K mg base "options_of" 4 ["source", "number"] [] (sp_options_of C_BadText)) (O_is_remark : Own P w K mg base "is_remark" 3 ["source"] [] (sp_is_remark)) (O_Example_init : OwnC P w K mg base "Example" C_Example 4 ["self", "source", "want", "error", "line", "indent", "options"] ["error", "line", "indent", "options"] 2 (sp_Example_init C_Example)) (O_error_of : Own P w K mg base "error_of" 2 ["want"] [] (sp_error_of)) (O_BadText_init : OwnE P w K mg base "BadText" C_BadText 2 ["self", "line", "reason", "found"] (sp_BadText_init C_BadText)) (O_Comment_init : OwnC P w K mg base "Comment" C_Comment 2 ["self", "source", "want", "line", "indent"] ["line", "indent"] 2 (sp_Comment_init C_Comment)) {t_AHEAD : Tok} (c_AHEAD : mg "AHEAD" = some (.int 4 t_AHEAD)) : FnOk P w K mg base (L2.CX P w) 6 f fd ["lines", "cut"] (sp_piece_at C_Example C_Comment C_BadText) := by
  refine Fn.okX F sc_piece_at (fun vs H Q E h => ?_) (fun cdv A outer s H vs Q E hr h => ?_)
  · obtain ⟨_, _, _, _, _, _, _, rfl, _⟩ := h
    rfl
  · obtain ⟨p, t, ws, a, m, e, n, rfl, hp, ht, hs, rc, h10, hl, hn, h9, few, k, kE⟩ := h
    refine ⟨_, (pss_cons (ps_expr (pe_ownX O_refuse_wrong_lines (hr.mono (by decide)) (takes_of rfl rfl rfl rfl) (fun _ _ _ _ h => h) (by rfl) (pa_cons (pv 0) (pa_cons (pv 1) pa_nil))))
      (pss_cons (ps_asg (pv 1) (pg_tup rfl (pgs_cons (pg_name (i := 2) sc_piece_at.nd rfl (.inl rfl)) (pgs_cons (pg_name (i := 3) sc_piece_at.nd rfl (.inl rfl)) (pgs_cons (pg_name (i := 4) sc_piece_at.nd rfl (.inl rfl)) pgs_nil)))))
      (pss_cons (ps_set (i := 5) sc_piece_at.nd rfl (.inr rfl) (pe_own O_indent_of (hr.mono (by decide)) (by rfl) (pa_cons (pe_ix ix_list (pv 0) (pv 2) (fun _ _ => rfl)) pa_nil)))
      (pss_cons (ps_set (i := 6) sc_piece_at.nd rfl (.inl rfl) (pe_m1 PySem.F.slot_str_join PySem.F.type_str_join mt_join pe_str (pe_lc (own := [("line", 9)]) (g := gName 9) (tt := tYes) (by rfl) sc_piece_at.nd (pi_list (pe_slice sl_list (pv 0) (po_some (pv 2)) (po_some (pv 3)))) (blkOk_by (own := [("line", 9)]) (N := ["lines", "cut", "start", "middle", "end", "indent", "source", "want", "options", "line"]) (sc := defScope s_piece_at) (by decide +kernel)) (fun _ _ _ _ _ => (pg_name (i := 9) sc_piece_at.nd rfl (.inl rfl))) (fun _ _ _ _ _ => pts_nil) (fun _ _ _ _ _ => (pe_op op_add_str (pe_slice sl_str (pv 9) (po_some (pe_op op_add (pv 5) (pe_glob (v := .int 4) rfl c_AHEAD ⟨_, rfl⟩))) po_none) pe_str)))))
      (pss_cons (ps_set (i := 7) sc_piece_at.nd rfl (.inl rfl) (pe_m1 PySem.F.slot_str_join PySem.F.type_str_join mt_join pe_str (pe_lc (own := [("line", 9)]) (g := gName 9) (tt := tYes) (by rfl) sc_piece_at.nd (pi_list (pe_slice sl_list (pv 0) (po_some (pv 3)) (po_some (pv 4)))) (blkOk_by (own := [("line", 9)]) (N := ["lines", "cut", "start", "middle", "end", "indent", "source", "want", "options", "line"]) (sc := defScope s_piece_at) (by decide +kernel)) (fun _ _ _ _ _ => (pg_name (i := 9) sc_piece_at.nd rfl (.inl rfl))) (fun _ _ _ _ _ => pts_nil) (fun _ _ _ _ _ => (pe_op op_add_str (pe_slice sl_str (pv 9) (po_some (pv 5)) po_none) pe_str)))))
      (pss_cons (ps_set (i := 8) sc_piece_at.nd rfl (.inl rfl) (pe_ownX O_options_of (hr.mono (by decide)) (takes_of rfl rfl rfl rfl) (fun _ _ _ _ h => h) (by rfl) (pa_cons (pv 6) (pa_cons (pe_op op_add (pv 2) pe_int) pa_nil))))
      (pss_cons (ps_if (pt_not (pt_val (pe_own O_is_remark (hr.mono (by decide)) (by rfl) (pa_cons (pv 6) pa_nil))))
          (pss_one (ps_ret (pe_ownC O_Example_init (hr.mono (by decide)) (by rfl) (pa_cons (pv 6) (pa_cons (pv 7) pa_nil)) (pk_cons (pe_own O_error_of (hr.mono (by decide)) (by rfl) (pa_cons (pv 7) pa_nil)) (pk_cons (pe_op op_add (pv 2) pe_int) (pk_cons (pv 5) (pk_cons (pv 8) pk_nil)))))))
          pss_nil)
      (pss_cons (ps_if (pt_tr (K' := K) (pv 8))
          (pss_one (ps_raise rfl (takes_of rfl rfl rfl rfl) (pmk_E O_BadText_init (hr.mono (by decide)) (by rfl) (pa_cons (pe_op op_add (pv 2) pe_int) (pa_cons pe_str (pa_cons (pv 6) pa_nil))))))
          pss_nil)
      (pss_one (ps_ret (pe_ownC O_Comment_init (hr.mono (by decide)) (by rfl) (pa_cons (pv 6) (pa_cons (pv 7) pa_nil)) (pk_cons (pe_op op_add (pv 2) pe_int) (pk_cons (pv 5) pk_nil))))))))))))), ?_⟩
    have am := rc.am
    have me := rc.me
    have ew := rc.ew
    have h1 := hs.1
    have hlen : ((ws.map mk).map V.str).length = ws.length := by rw [List.length_map, List.length_map]
    have ha : a < ws.length := by omega
    have hga : ((ws.map mk).map V.str)[a]? = some (.str (mk ws[a])) := by
      rw [List.getElem?_map, List.getElem?_map, List.getElem?_eq_getElem ha]
      rfl
    have la := hs.2 _ (List.getElem_mem ha)
    have e0 : lead (tl (mk ws[a])) = n := hn _ (List.getElem?_eq_getElem ha)
    refine ⟨.ref p, rfl, .ref t, rfl, p, t, ws, a, m, e, rfl, hp, ht, hs, rc, fun H1 s1 => ⟨.ref t, rfl, t, _, rfl, SqT.of (s1 _ _ ht), rfl, _, _, rfl, _, _, rfl, _, _, rfl, rfl, .ref p, rfl, .int (a : Int), rfl, p, _, _, .str (mk ws[a]), rfl, rfl, SqL.of (s1 _ _ hp), atI_nat hga, mk ws[a], rfl, by rw [mk_len]; omega, ?_⟩⟩
    rw [e0]
    have ec : ∀ x y : Nat, x ≤ y → y ≤ ws.length → cutV ((ws.map mk).map V.str) (some (x : Int)) (some (y : Int)) = (((ws.drop x).take (y - x)).map mk).map V.str := fun x y hx hy => by
      rw [cutV_seg _ x y hx (by rw [hlen]; exact hy), List.map_take, List.map_take, List.map_drop, List.map_drop]
    refine ⟨⟨_, rfl⟩, .ref p, rfl, .int (a : Int), rfl, _, rfl, .int (m : Int), rfl, _, rfl, p, _, rfl, SqL.of (s1 _ _ hp), fun b nb => ?_⟩
    rw [ec a m (by omega) (by omega)]
    have lb : ∀ x y, ∀ l ∈ (ws.drop x).take (y - x), l.length ≤ 10000 := fun x y l h => hs.2 l (List.mem_of_mem_drop (List.mem_of_mem_take h))
    have ln : ∀ x y, ((ws.drop x).take (y - x)).length ≤ 10000 := fun x y => by
      rw [List.length_take, List.length_drop]
      omega
    have sb := same_new (o := .lst ((((ws.drop a).take (m - a)).map mk).map V.str)) nb
    have lb1 := lb a m
    have ln1 := ln a m
    have S1 := seg_sum ws a (m - a) (n + 4)
    have S2 := seg_len ws a (m - a) (n + 4)
    have S0 : 1 ≤ (((ws.drop a).take (m - a)).map (·.drop (n + 4))).length := by
      rw [List.length_map, List.length_take, List.length_drop]
      omega
    have l1 : ("\n" : Str).length = 1 := rfl
    have e00 : ("" : Str) = mk [] := ext_tl (by decide +kernel)
    have el0 : ("" : Str).length = 0 := by decide +kernel
    have m1 : ∀ l ∈ srcL ws a m (n + 4), (10 : Nat) ∉ l := fun l hl h => by
      obtain ⟨l', h2, rfl⟩ := seg_mem hl
      exact h10 l' h2 (List.mem_of_mem_drop h)
    have m9 : ∀ l ∈ srcL ws a m (n + 4), (9 : Nat) ∉ l := fun l hl h => by
      obtain ⟨l', h2, rfl⟩ := seg_mem hl
      exact h9 l' h2 (List.mem_of_mem_drop h)
    unfold srcL at few k kE m1 m9
    generalize (ws.drop a).take (m - a) = ra at sb lb1 ln1 S0 S1 S2 few k kE m1 m9 ⊢
    refine ⟨b, rfl, ⟨_, SqL.of upd_same⟩, fun M nM => lc_list (K := K) (a := b) (xs := (ra.map mk).map V.str) (fun i H4 => H4 M = some (rowsV (((ra.take i).map (·.drop (n + 4))).map (· ++ [10]))) ∧ Same (upd H1 b (.lst ((ra.map mk).map V.str))) H4) ⟨upd_same, same_new nM⟩ (fun i H4 _ h4 => SqL.of (h4.2 _ _ upd_same)) ?_ ?_⟩
    · rintro i v H4 hv ⟨eM, s4⟩
      obtain ⟨z, rfl, hz⟩ := str_at hv
      rw [List.getElem?_map] at hz
      obtain ⟨l, hl2, rfl⟩ := Option.map_eq_some_iff.mp hz
      have gl := lb1 l (List.mem_of_getElem? hl2)
      have ecl : cutS (mk l) (some ((n : Int) + 4)) none = mk (l.drop (n + 4)) := ext_tl (by rw [show ((n : Int) + 4) = ((n + 4 : Nat) : Int) by omega, cutS_from]; rfl)
      refine ⟨rfl, ?_⟩
      unfold tYes
      show ite (true = true) _ _
      rw [if_pos rfl]
      refine ⟨.str (mk l), rfl, .int (n : Int), rfl, _, _, rfl, rfl, _, rfl, mk l, rfl, by rw [mk_len]; exact line_of (by omega), _, _, rfl, rfl, ?_, _, eM, ?_, ?_, fun b o e => ?_⟩
      · rw [ecl, mk_len, l1, List.length_drop]
        exact line_of (by omega)
      · rw [List.length_map, List.length_map, List.length_map, List.length_map, List.length_take]
        exact Nat.lt_of_le_of_lt (show min i ra.length ≤ 10000 by omega) (by decide)
      · rw [upd_same, List.take_add_one, hl2, List.map_append, List.map_append]
        unfold rowsV
        rw [List.map_append, List.map_append, ecl]
        exact congrArg (fun v => some (HO.lst (((((ra.take i).map (·.drop (n + 4))).map (· ++ [10])).map mk).map V.str ++ [v]))) (congrArg V.str (ext_tl (by rw [tl_append]; rfl)))
      · rw [upd_ne (ne_of_none e nM)]
        exact s4 b o e
    rintro H4 ⟨eM, s4⟩
    rw [List.length_map, List.length_map, List.take_length] at eM
    generalize ra.map (·.drop (n + 4)) = sl at S0 S1 S2 few k kE m1 m9 eM
    have fl := flat_len sl
    refine ⟨"", M, (sl.map (· ++ [10])).map mk, rfl, rfl, .inl (SqL.of eM), ?_, ?_⟩
    · rw [el0, Nat.mul_zero, List.map_map]
      show ((sl.map (· ++ [10])).map (·.length)).sum + 0 ≤ _
      rw [sum_fed]
      omega
    rw [show Txt.join "" ((sl.map (· ++ [10])).map mk) = rowsT sl by rw [e00, join_mk]; rfl]
    have s14 : Same H H4 := s1.trans (sb.trans s4)
    clear s4 sb eM nb nM
    refine ⟨⟨_, rfl⟩, .ref p, rfl, .int (m : Int), rfl, _, rfl, .int (e : Int), rfl, _, rfl, p, _, rfl, SqL.of (s14 _ _ hp), fun b nb => ?_⟩
    rw [ec m e me ew]
    have sb := same_new (o := .lst ((((ws.drop m).take (e - m)).map mk).map V.str)) nb
    have lb2 := lb m e
    have ln2 := ln m e
    have S3 := seg_sum ws m (e - m) n
    have S4 := seg_len ws m (e - m) n
    have m2 : ∀ l ∈ srcL ws m e n, (10 : Nat) ∉ l := fun l hl h => by
      obtain ⟨l', h2, rfl⟩ := seg_mem hl
      exact h10 l' h2 (List.mem_of_mem_drop h)
    unfold srcL at m2
    generalize (ws.drop m).take (e - m) = ra at sb lb2 ln2 S3 S4 k m2 ⊢
    refine ⟨b, rfl, ⟨_, SqL.of upd_same⟩, fun M nM => lc_list (K := K) (a := b) (xs := (ra.map mk).map V.str) (fun i H5 => H5 M = some (rowsV (((ra.take i).map (·.drop n)).map (· ++ [10]))) ∧ Same (upd H4 b (.lst ((ra.map mk).map V.str))) H5) ⟨upd_same, same_new nM⟩ (fun i H5 _ h5 => SqL.of (h5.2 _ _ upd_same)) ?_ ?_⟩
    · rintro i v H5 hv ⟨eM, s5⟩
      obtain ⟨z, rfl, hz⟩ := str_at hv
      rw [List.getElem?_map] at hz
      obtain ⟨l, hl2, rfl⟩ := Option.map_eq_some_iff.mp hz
      have gl := lb2 l (List.mem_of_getElem? hl2)
      have ecl : cutS (mk l) (some (n : Int)) none = mk (l.drop n) := ext_tl (by rw [cutS_from]; rfl)
      refine ⟨rfl, ?_⟩
      unfold tYes
      show ite (true = true) _ _
      rw [if_pos rfl]
      refine ⟨.str (mk l), rfl, .int (n : Int), rfl, _, rfl, mk l, rfl, by rw [mk_len]; exact line_of (by omega), _, _, rfl, rfl, ?_, _, eM, ?_, ?_, fun b o e => ?_⟩
      · rw [ecl, mk_len, l1, List.length_drop]
        exact line_of (by omega)
      · rw [List.length_map, List.length_map, List.length_map, List.length_map, List.length_take]
        exact Nat.lt_of_le_of_lt (show min i ra.length ≤ 10000 by omega) (by decide)
      · rw [upd_same, List.take_add_one, hl2, List.map_append, List.map_append]
        unfold rowsV
        rw [List.map_append, List.map_append, ecl]
        exact congrArg (fun v => some (HO.lst (((((ra.take i).map (·.drop n)).map (· ++ [10])).map mk).map V.str ++ [v]))) (congrArg V.str (ext_tl (by rw [tl_append]; rfl)))
      · rw [upd_ne (ne_of_none e nM)]
        exact s5 b o e
    rintro H5 ⟨eM, s5⟩
    rw [List.length_map, List.length_map, List.take_length] at eM
    generalize ra.map (·.drop n) = wl at S3 S4 k m2 eM
    have fw := flat_len wl
    refine ⟨"", M, (wl.map (· ++ [10])).map mk, rfl, rfl, .inl (SqL.of eM), ?_, ?_⟩
    · rw [el0, Nat.mul_zero, List.map_map]
      show ((wl.map (· ++ [10])).map (·.length)).sum + 0 ≤ _
      rw [sum_fed]
      omega
    rw [show Txt.join "" ((wl.map (· ++ [10])).map mk) = rowsT wl by rw [e00, join_mk]; rfl]
    have s15 : Same H H5 := s14.trans (sb.trans s5)
    clear s5 sb eM nb nM
    have xs1 : tl (rowsT sl) = joinL [10] (sl ++ [[]]) := (join_ten sl).symm
    have xs2 : tl (rowsT wl) = joinL [10] (wl ++ [[]]) := (join_ten wl).symm
    have r1 : Rows10 (sl ++ [[]]) := fun l hl => by
      rcases List.mem_append.mp hl with h | h
      · exact m1 l h
      · rw [List.mem_singleton.mp h]
        exact nofun
    have r2 : Rows10 (wl ++ [[]]) := fun l hl => by
      rcases List.mem_append.mp hl with h | h
      · exact m2 l h
      · rw [List.mem_singleton.mp h]
        exact nofun
    have z1 : (rowsT sl).length ≤ 10000 := by
      show (mk _).length ≤ _
      rw [mk_len, fl]
      omega
    have z2 : (rowsT wl).length ≤ 10000 := by
      show (mk _).length ≤ _
      rw [mk_len, fw]
      omega
    have ro : ∀ ls : List (List Nat), rowsOf ls [] = ls := fun ls => by
      show ls ++ [] = ls
      rw [List.append_nil]
    have kp : keptOf wl [] = wl.map (· ++ [10]) := by
      show wl.map (· ++ [10]) ++ [] = _
      rw [List.append_nil]
    have n9 : (9 : Nat) ∉ tl (rowsT sl) := fun h => by
      have h1 : (9 : Nat) ∈ joinL [] (sl.map (· ++ [10])) := h
      have key : ∀ x : List (List Nat), (∀ l ∈ x, (9 : Nat) ∉ l) → (9 : Nat) ∉ joinL [] (x.map (· ++ [10])) := fun x => by
        induction x with
        | nil => exact fun _ z => by cases z
        | cons a r ih =>
          intro hx z
          rw [List.map_cons, joinL_flat] at z
          rcases List.mem_append.mp z with z | z
          · rcases List.mem_append.mp z with z | z
            · exact hx a (List.mem_cons_self ..) z
            · exact absurd (List.mem_singleton.mp z) (by decide)
          · exact ih (fun l hl => hx l (List.mem_cons_of_mem _ hl)) z
      exact key sl m9 h1
    refine ⟨.str (rowsT sl), rfl, .int (a : Int), rfl, _, _, rfl, rfl, rowsT sl, sl, [], _, rfl, xs1, r1, z1, n9, by rw [ro]; exact few, fun hall H6 o s6 no eo => ⟨.str (rowsT sl), rfl, rowsT sl, sl, [], rfl, xs1, r1, z1, fun H7 s7 => ⟨_, rfl, ?_⟩⟩, fun w hw H6 d s6 nd ed => kE ("option", w) (by unfold badP; rw [ro] at hw; rw [hw]) H6 d (s15.trans s6) (s15.free nd) ed⟩
    rw [ro] at eo hall ⊢
    have hd : OptsOk sl := ⟨hall, few⟩
    have hbw := badW_none hall
    have fk := flagKeys_opts hd
    have ea : (sl.map remL).all id = sl.all remL := by
      rw [List.all_map]
      rfl
    rw [ea]
    have s17 := s15.trans (s6.trans s7)
    have es : Txt.endswith (rowsT sl) "\n" = true := by
      obtain ⟨q, e⟩ := flat_ten sl (fun z => by rw [z] at S0; exact absurd S0 (by decide))
      unfold rowsT
      rw [e]
      exact ends_ten q
    have ew' : rowsT wl = "" ∨ Txt.endswith (rowsT wl) "\n" = true := by
      cases wl with
      | nil => exact .inl (by decide +kernel)
      | cons c r =>
        obtain ⟨q, e⟩ := flat_ten (c :: r) (by simp)
        unfold rowsT
        rw [e]
        exact .inr (ends_ten q)
    have errW : optV (errP (wl.map (· ++ [10]))) = .non ∨ ∃ e : Str, optV (errP (wl.map (· ++ [10]))) = .str e ∧ e.length ≤ 100000 := by
      cases he : errP (wl.map (· ++ [10])) with
      | none => exact .inl rfl
      | some l => exact .inr ⟨mk l, rfl, by
          have := errP_len he
          have e := sum_fed wl
          rw [mk_len]
          omega⟩
    show ite ((!sl.all remL) = true) _ _
    cases hr : sl.all remL with
    | false =>
      have k := k (by unfold badP; rw [hbw, hr]; rfl)
      refine iteT ⟨.str (rowsT sl), rfl, .str (rowsT wl), rfl, .str (rowsT wl), rfl, rowsT wl, wl, [], rfl, xs2, r2, z2, fun H8 s8 => ?_⟩
      rw [kp]
      refine ⟨.int (a : Int), rfl, _, _, rfl, rfl, .int (n : Int), rfl, .ref o, rfl, rfl, rfl, fun x dx nx ndx ne => ⟨x, dx, .ref o, optsOf sl, rowsT sl, rowsT wl, sl, [], optV (errP (wl.map (· ++ [10]))), _, _, rfl, ⟨by rw [fedS_of es]; exact xs1, r1, by omega, by rw [fedS_of es]; exact z1⟩, by omega, errW, upd_same, .inr ⟨o, rfl, ?_⟩, fk, fun H9 fs out e9 F => ⟨rfl, k H9 x dx fs (fun b' o' e' => ?_) ((s17.trans s8).free nx) (by rw [hr]; rw [fedS_of es, wantS_of ew', errS_of (err_ten wl)] at F; exact iteF ⟨e9, F⟩)⟩⟩⟩
      · have eo2 := s8 _ _ (s7 _ _ eo)
        rw [upd_ne (ne_of_none eo2 nx), upd_ne (ne_of_none eo2 ndx)]
        exact eo2
      · have e2 := (s17.trans s8) _ _ e'
        refine out _ _ ?_ (ne_of_none e2 nx)
        rw [upd_ne (ne_of_none e2 nx), upd_ne (ne_of_none e2 ndx)]
        exact e2
    | true =>
      cases hwe : (wordsAll sl).isEmpty with
      | false =>
        have ne := opts_ne (ls := sl) (fun z => by rw [z] at hwe; cases hwe)
        have eo7 := s7 _ _ eo
        refine iteF ⟨.ref o, rfl, true, .inr (.inr ⟨optsOf sl, eo7, ?_⟩), iteT ⟨.int (a : Int), rfl, _, _, rfl, rfl, .str (rowsT sl), rfl, by show 3 ≤ 1000; decide, fun x nx => ⟨x, _, "no example", rowsT sl, rfl, upd_same, fun H8 d k1 nd nda k2 k3 => ⟨rfl, d, _, k2, k3, ?_, ?_⟩⟩⟩⟩
        · cases ho : optsOf sl with
          | nil => exact absurd ho ne
          | cons _ _ => rfl
        · rw [← upd_ne (H := H7) (a := x) (o := exo x C_BadText none) nda]
          exact nd
        · have nd7 : H7 d = none := by
            rw [← upd_ne (H := H7) (a := x) (o := exo x C_BadText none) nda]
            exact nd
          refine kE ("no example", rowsT sl) (by unfold badP; rw [hbw, hr, hwe]; rfl) _ d (fun b o e => ?_) (s17.free nd7) upd_same
          have e7 := s17 _ _ e
          have bx : b ≠ x := ne_of_none e7 nx
          rw [upd_ne (ne_of_none e7 nd7), del_ne bx]
          exact k1 _ _ (by rw [upd_ne bx]; exact e7) bx
      | true =>
      have k := k (by unfold badP; rw [hbw, hr, hwe]; rfl)
      rw [show optsOf sl = [] from by unfold optsOf; rw [List.isEmpty_iff.mp hwe]; rfl] at eo
      refine iteF ⟨.ref o, rfl, false, .inr (.inr ⟨[], s7 _ _ eo, rfl⟩), iteF ⟨.str (rowsT sl), rfl, .str (rowsT wl), rfl, .int (a : Int), rfl, _, _, rfl, rfl, .int (n : Int), rfl, rfl, rfl, fun x dx nx ndx ne => ⟨x, dx, rowsT sl, rowsT wl, _, _, rfl, by omega, by omega, upd_same, fun H9 fs out e9 F => ⟨rfl, k H9 x dx fs (fun b' o' e' => ?_) (s17.free nx) (by rw [hr]; rw [fedS_of es, wantS_of ew'] at F; exact iteT ⟨e9, F⟩)⟩⟩⟩⟩
      have e2 := s17 _ _ e'
      refine out _ _ ?_ (ne_of_none e2 nx)
      rw [upd_ne (ne_of_none e2 nx), upd_ne (ne_of_none e2 ndx)]
      exact e2
def ldAt (ws : List (List Nat)) (a : Nat) : Nat := lead (ws.getD a [])
/-- what a cut becomes -/
def PieceIs (C D : Addr) (ws : List (List Nat)) (H : Hp) (c : Nat × Nat × Nat) (v : V) : Prop := ∃ (q dx : Addr) (fs : List (Str × V)), v = .ref q ∧
  if (srcL ws c.1 c.2.1 (ldAt ws c.1 + 4)).all remL = true then H q = some (.ins D dx fs) ∧ CoF fs (rowsT (srcL ws c.1 c.2.1 (ldAt ws c.1 + 4))) (rowsT (srcL ws c.2.1 c.2.2 (ldAt ws c.1))) ((c.1 + 1 : Nat) : Int) (ldAt ws c.1 : Int)
  else H q = some (.ins C dx fs) ∧ ExF H fs (rowsT (srcL ws c.1 c.2.1 (ldAt ws c.1 + 4))) (rowsT (srcL ws c.2.1 c.2.2 (ldAt ws c.1))) (optV (errP ((srcL ws c.2.1 c.2.2 (ldAt ws c.1)).map (· ++ [10])))) ((c.1 + 1 : Nat) : Int) (ldAt ws c.1 : Int) (bareT (srcL ws c.1 c.2.1 (ldAt ws c.1 + 4)) []) (optsOf (srcL ws c.1 c.2.1 (ldAt ws c.1 + 4)))
def PcsAt (C D : Addr) (ws : List (List Nat)) (H : Hp) : List V → List (Str ⊕ (Nat × Nat × Nat)) → Prop
  | [], [] => True
  | v :: vs, .inl x :: ps => v = .str x ∧ PcsAt C D ws H vs ps
  | v :: vs, .inr c :: ps => PieceIs C D ws H c v ∧ PcsAt C D ws H vs ps
  | _, _ => False
/-- all but lists stand as before -/
def NL (H H' : Hp) : Prop := ∀ b o, H b = some o → (∀ xs, o ≠ .lst xs) → H' b = some o
theorem NL.same {H H' : Hp} (s : Same H H') : NL H H' := fun b o e _ => s b o e
theorem NL.upd {H : Hp} {C : Addr} {xs ys : List V} (e : H C = some (.lst xs)) : NL H (L2.upd H C (.lst ys)) := fun b o eb n => by
  rw [upd_ne (fun z => by rw [z, e] at eb; exact n xs (Option.some.inj eb).symm)]
  exact eb
theorem PieceIs.nl {C D : Addr} {ws : List (List Nat)} {H H' : Hp} {c : Nat × Nat × Nat} {v : V} (s : NL H H') (h : PieceIs C D ws H c v) : PieceIs C D ws H' c v := by
  obtain ⟨q, dx, fs, e, k⟩ := h
  refine ⟨q, dx, fs, e, ?_⟩
  split at k
  · rename_i hr
    rw [hr]
    exact iteT ⟨s _ _ k.1 nofun, k.2⟩
  · rename_i hr
    rw [(Bool.not_eq_true _).mp hr]
    obtain ⟨o, o1, o2⟩ := k.2.options
    exact iteF ⟨s _ _ k.1 nofun, k.2.source, k.2.want, k.2.error, k.2.line, k.2.indent, ⟨o, o1, s _ _ o2 nofun⟩, k.2.bare⟩
theorem PcsAt.nl {C D : Addr} {ws : List (List Nat)} {H H' : Hp} (s : NL H H') : ∀ {vs : List V} {ps : List (Str ⊕ (Nat × Nat × Nat))}, PcsAt C D ws H vs ps → PcsAt C D ws H' vs ps
  | [], [], _ => trivial
  | _ :: _, .inl _ :: _, h => ⟨h.1, PcsAt.nl s h.2⟩
  | _ :: _, .inr _ :: _, h => ⟨h.1.nl s, PcsAt.nl s h.2⟩
  | [], .inl _ :: _, h => h.elim
  | [], .inr _ :: _, h => h.elim
  | _ :: _, [], h => h.elim
theorem PcsAt.app {C D : Addr} {ws : List (List Nat)} {H : Hp} {us : List V} {qs : List (Str ⊕ (Nat × Nat × Nat))} (k : PcsAt C D ws H us qs) : ∀ {vs : List V} {ps : List (Str ⊕ (Nat × Nat × Nat))}, PcsAt C D ws H vs ps → PcsAt C D ws H (vs ++ us) (ps ++ qs)
  | [], [], _ => k
  | _ :: _, .inl _ :: _, h => ⟨h.1, PcsAt.app k h.2⟩
  | _ :: _, .inr _ :: _, h => ⟨h.1, PcsAt.app k h.2⟩
  | [], .inl _ :: _, h => h.elim
  | [], .inr _ :: _, h => h.elim
  | _ :: _, [], h => h.elim
theorem PcsAt.txt {C D : Addr} {ws : List (List Nat)} {H : Hp} (x : Str) : PcsAt C D ws H [.str x] [.inl x] := ⟨rfl, trivial⟩
theorem PcsAt.pc {C D : Addr} {ws : List (List Nat)} {H : Hp} {c : Nat × Nat × Nat} {v : V} (h : PieceIs C D ws H c v) : PcsAt C D ws H [v] [.inr c] := ⟨h, trivial⟩
theorem PcsAt.len {C D : Addr} {ws : List (List Nat)} {H : Hp} : ∀ {vs : List V} {ps : List (Str ⊕ (Nat × Nat × Nat))}, PcsAt C D ws H vs ps → vs.length = ps.length
  | [], [], _ => rfl
  | _ :: _, .inl _ :: _, h => congrArg Nat.succ (PcsAt.len h.2)
  | _ :: _, .inr _ :: _, h => congrArg Nat.succ (PcsAt.len h.2)
  | [], .inl _ :: _, h => h.elim
  | [], .inr _ :: _, h => h.elim
  | _ :: _, [], h => h.elim
/-- a stretch of text, if there is one -/
theorem exp_tab (n : Nat) : ∀ {l : List Nat} (col : Nat), (9 : Nat) ∉ Mun.expT n col l
  | [], col, h => by cases h
  | c :: r, col, h => by
    by_cases h9 : c = 9
    · rw [Mun.expT, if_pos h9] at h
      rcases List.mem_append.mp h with h | h
      · exact absurd (List.eq_of_mem_replicate h) (by decide)
      · exact exp_tab n _ h
    · rw [Mun.expT, if_neg h9] at h
      split at h
      · rcases List.mem_cons.mp h with h | h
        · exact h9 h.symm
        · exact exp_tab n _ h
      · rcases List.mem_cons.mp h with h | h
        · exact h9 h.symm
        · exact exp_tab n _ h
def gapP (kept : List (List Nat)) (b e : Nat) : List (Str ⊕ (Nat × Nat × Nat)) := if b < e then [.inl (mk (joinL [] ((kept.drop b).take (e - b))))] else []
/-- the pieces of cuts, from a place on -/
def piecesL (kept : List (List Nat)) : Nat → List (Nat × Nat × Nat) → List (Str ⊕ (Nat × Nat × Nat))
  | b, [] => gapP kept b kept.length
  | b, c :: r => gapP kept b c.1 ++ (.inr c :: piecesL kept c.2.2 r)
/-- a text whose cuts are right, its directives, too -/
structure Whole (x : Str) (ls init : List (List Nat)) (last : List Nat) : Prop where
  eq : tl x = joinL [10] ls
  ne : ls ≠ []
  sg : ∀ l ∈ ls, ∀ c ∈ l, c ≠ 10 ∧ c ≠ 13
  lx : (tl x).length ≤ 9000
  lev : levW (ls.map (Mun.expT 8 0)) = init ++ [last]
  sz : (joinL [10] (init ++ [last])).length ≤ 9000
  right : ∀ c ∈ cutsL (rowsOf init last) 0, RightCut (rowsOf init last) c.1 c.2.1 c.2.2 ∧ (wordsAll (srcL (rowsOf init last) c.1 c.2.1 (ldAt (rowsOf init last) c.1 + 4))).length ≤ 100000
/-- what is wrong of the first wrong one of some cuts: its line, the reason, what was found -/
def badAll (rows : List (List Nat)) : List (Nat × Nat × Nat) → Option (Int × Str × Str)
  | [] => none
  | c :: r => match badP (srcL rows c.1 c.2.1 (ldAt rows c.1 + 4)) with
    | some rf => some ((c.1 : Int) + 1, rf.1, rf.2)
    | none => badAll rows r
def sp_parsed (C D B : Addr) : Sp := fun vs H Q E => ∃ (x : Str) (ls init : List (List Nat)) (last : List Nat), vs = [.str x] ∧ Whole x ls init last ∧
  (badAll (rowsOf init last) (cutsL (rowsOf init last) 0) = none → ∀ (H' : Hp) (L : Addr) (us : List V), Same H H' → H L = none → H' L = some (.lst us) → PcsAt C D (rowsOf init last) H' us (piecesL (keptOf init last) 0 (cutsL (rowsOf init last) 0)) → Q (.ref L) H') ∧
  ∀ n r f, badAll (rowsOf init last) (cutsL (rowsOf init last) 0) = some (n, r, f) → ∀ (H' : Hp) (d : Addr), Same H H' → H d = none → H' d = some (.xd [("found", .str f), ("reason", .str r), ("line", .int n)]) → E (.ref B) (some d) H'
theorem ok_parsed {f : Addr} {fd : FuncData} {dvs : List V} (F : Fn K "parsed" s_parsed dvs f fd) {C_Example : Addr} (T_Example : Txt_Example K mg C_Example) {C_Comment : Addr} (T_Comment : Txt_Comment K mg C_Comment) {C_BadText : Addr} (T_BadText : Err_BadText K mg C_BadText) (O_levelled : Own P w K mg base "levelled" 2 ["text"] [] (sp_levelled)) (O_kept_lines : Own P w K mg base "kept_lines" 1 ["text"] [] (sp_kept_lines)) (O_lines_of : Own P w K mg base "lines_of" 2 ["text"] [] (sp_lines_of)) (O_cuts_of : Own P w K mg base "cuts_of" 3 ["lines"] [] (sp_cuts_of)) (O_piece_at : OwnX P w K mg base "piece_at" 6 ["lines", "cut"] [] (sp_piece_at C_Example C_Comment C_BadText)) (m_len : mg "len" = none) : FnOk P w K mg base (L2.CX P w) 7 f fd ["text"] (sp_parsed C_Example C_Comment C_BadText) := by
  refine Fn.okX F sc_parsed (fun vs H Q E h => ?_) (fun cdv A outer s H vs Q E hr h => ?_)
  · obtain ⟨_, _, _, _, rfl, _⟩ := h
    rfl
  · obtain ⟨x, ls, init, last, rfl, wh, k, kE⟩ := h
    refine ⟨_, (pss_cons (ps_set (i := 1) sc_parsed.nd rfl (.inl rfl) (pe_own O_levelled (hr.mono (by decide)) (by rfl) (pa_cons (pv 0) pa_nil)))
      (pss_cons (ps_set (i := 2) sc_parsed.nd rfl (.inl rfl) (pe_own O_kept_lines (hr.mono (by decide)) (by rfl) (pa_cons (pv 1) pa_nil)))
      (pss_cons (ps_set (i := 3) sc_parsed.nd rfl (.inl rfl) (pe_own O_lines_of (hr.mono (by decide)) (by rfl) (pa_cons (pv 1) pa_nil)))
      (pss_cons (ps_set (i := 4) sc_parsed.nd rfl (.inl rfl) (pe_lst pa_nil))
      (pss_cons (ps_set (i := 5) sc_parsed.nd rfl (.inl rfl) pe_int)
      (pss_cons (ps_for (passes_of rfl) rfl (pi_list (pe_own O_cuts_of (hr.mono (by decide)) (by rfl) (pa_cons (pv 3) pa_nil))) (pg_name (i := 6) sc_parsed.nd rfl (.inl rfl))
          (pss_cut (ps_if (pt_cmpR op_lt (pv 5) (pe_ix ix_tup (pv 6) pe_int (fun _ _ => rfl)) (nomark _))
                (pss_one (ps_expr (pe_bm PySem.F.plainAttrs_list PySem.F.slot_list_append PySem.F.type_list_append mt_append (pv 4) (pa_cons (pe_m1 PySem.F.slot_str_join PySem.F.type_str_join mt_join pe_str (pe_slice sl_list (pv 2) (po_some (pv 5)) (po_some (pe_ix ix_tup (pv 6) pe_int (fun _ _ => rfl))))) pa_nil))))
                pss_nil)
            (pss_cons (ps_expr (pe_bm PySem.F.plainAttrs_list PySem.F.slot_list_append PySem.F.type_list_append mt_append (pv 4) (pa_cons (pe_ownX O_piece_at (hr.mono (by decide)) (takes_of rfl rfl rfl rfl) (fun _ _ _ _ h => h) (by rfl) (pa_cons (pv 3) (pa_cons (pv 6) pa_nil))) pa_nil)))
            (pss_one (ps_set (i := 5) sc_parsed.nd rfl (.inl rfl) (pe_ix ix_tup (pv 6) pe_int (fun _ _ => rfl)))))))
      (pss_cut (ps_if (pt_cmpR op_lt (pv 5) (pe_callB call_len_seq (by rfl) m_len PySem.boot_len (pa_cons (pv 2) pa_nil)) (nomark _))
          (pss_one (ps_expr (pe_bm PySem.F.plainAttrs_list PySem.F.slot_list_append PySem.F.type_list_append mt_append (pv 4) (pa_cons (pe_m1 PySem.F.slot_str_join PySem.F.type_str_join mt_join pe_str (pe_slice sl_list (pv 2) (po_some (pv 5)) po_none)) pa_nil))))
          pss_nil)
      (pss_one (ps_ret (pv 4)))))))))), ?_⟩
    have lx := wh.lx
    have xe : tl (mk (joinL [10] (init ++ [last]))) = joinL [10] (init ++ [last]) := rfl
    have h10 : Rows10 (init ++ [last]) := fun l hl h => by
      rw [← wh.lev] at hl
      unfold levW at hl
      obtain ⟨l', h1, rfl⟩ := List.mem_map.mp hl
      obtain ⟨l2, h2, rfl⟩ := List.mem_map.mp h1
      exact exp_no 8 0 (by decide) (fun z => (wh.sg l2 h2 10 z).1 rfl) (List.mem_of_mem_drop h)
    have r9 : ∀ l ∈ rowsOf init last, (9 : Nat) ∉ l := fun l hl0 h => by
      have hl := rows_mem hl0
      rw [← wh.lev] at hl
      unfold levW at hl
      obtain ⟨l', h1, rfl⟩ := List.mem_map.mp hl
      obtain ⟨l2, h2, rfl⟩ := List.mem_map.mp h1
      exact exp_tab 8 0 (List.mem_of_mem_drop h)
    have xl : (mk (joinL [10] (init ++ [last]))).length ≤ 10000 := by
      rw [mk_len]
      have := wh.sz
      omega
    have ksum := kept_sum init last
    have hsz := wh.sz
    obtain ⟨rb, rn, rs⟩ := rows_bound xe xl
    have right := wh.right
    have kn : (keptOf init last).length = (rowsOf init last).length := by
      unfold keptOf rowsOf
      rw [List.length_append, List.length_append, List.length_map]
    have r10 : Rows10 (rowsOf init last) := fun l hl => by
      rcases List.mem_append.mp hl with h | h
      · exact h10 l (List.mem_append_left _ h)
      · unfold ifAny at h
        split at h
        · cases h
        · exact h10 l (List.mem_append_right _ h)
    have rs2 : ((rowsOf init last).map (·.length)).sum + (rowsOf init last).length ≤ 9001 := by
      have jl := joinL_len [10] (ps := init ++ [last]) (by simp)
      have e1 : ([10] : List Nat).length = 1 := rfl
      rw [e1, List.map_append, List.sum_append, List.length_append] at jl
      have c1 : ([last].map (·.length)).sum = last.length := by
        show last.length + 0 = _
        omega
      have l1 : [last].length = 1 := rfl
      rw [c1, l1] at jl
      unfold rowsOf ifAny
      rw [List.map_append, List.sum_append, List.length_append]
      split
      · show _ + 0 + (_ + 0) ≤ _
        omega
      · rw [c1, l1]
        omega
    refine ⟨.str x, rfl, x, ls, rfl, wh.eq, wh.ne, wh.sg, by omega, fun H1 s1 => ?_⟩
    rw [wh.lev]
    refine ⟨.str _, rfl, _, init, last, rfl, xe, h10, xl, fun H2 p2 s2 n2 e2 => ⟨.str _, rfl, _, init, last, rfl, xe, h10, xl, fun H3 p3 s3 n3 e3 => ⟨by show 0 ≤ sizeLine; decide, fun C nC => ?_⟩⟩⟩
    generalize mk (joinL [10] (init ++ [last])) = X at *
    generalize rowsOf init last = rows at *
    generalize keptOf init last = kept at *
    have hs : Short rows := ⟨by omega, rb⟩
    have sC := same_new (o := .lst []) nC
    have eC := upd_same (H := H3) (a := C) (o := .lst [])
    have nCH : H C = none := (s1.trans (s2.trans s3)).free nC
    refine ⟨.ref p3, rfl, p3, rows, rfl, sC _ _ e3, hs, fun H4 q ts s4 nq eq hc => ⟨q, rfl, ⟨_, SqL.of eq⟩, ?_⟩⟩
    have cl := cutsL_len rows rows.length 0 (by omega)
    have eC4 := s4 _ _ eC
    have qC : q ≠ C := fun e => by
      rw [e] at nq
      rw [eC] at nq
      cases nq
    have sH4 : Same H H4 := s1.trans (s2.trans (s3.trans (sC.trans s4)))
    have e24 := s4 _ _ (sC _ _ (s3 _ _ e2))
    have e34 := s4 _ _ (sC _ _ e3)
    have p2C : p2 ≠ C := ne_of_none (s3 _ _ e2) nC
    have p3C : p3 ≠ C := ne_of_none e3 nC
    generalize cutsL rows 0 = cuts at right k kE hc cl
    have hlen : ((kept.map mk).map V.str).length = kept.length := by rw [List.length_map, List.length_map]
    have el0 : ("" : Str).length = 0 := by decide +kernel
    have e00 : ("" : Str) = mk [] := ext_tl (by decide +kernel)
    have jsz : ∀ a n, ((((kept.drop a).take n).map mk).map (·.length)).sum + (((kept.drop a).take n).map mk).length * ("" : Str).length ≤ 16777216 := fun a n => by
      have h := seg_sum kept a n 0
      have hz : (((kept.drop a).take n).map (·.drop 0)) = (kept.drop a).take n := List.map_id _
      rw [hz] at h
      rw [el0, Nat.mul_zero, List.map_map]
      show (((kept.drop a).take n).map (·.length)).sum + 0 ≤ _
      omega
    have jtx : ∀ rs : List (List Nat), Txt.join "" (rs.map mk) = mk (joinL [] rs) := fun rs => by rw [e00, join_mk]
    refine for_list (K := K) (a := q) (xs := ts.map V.ref) (fun i σ H' => ∃ (v6 : Option V) (b : Nat) (us : List V) (ps : List (Str ⊕ (Nat × Nat × Nat))), σ = [some (.str x), some (.str X), some (.ref p2), some (.ref p3), some (.ref C), some (.int (b : Int)), v6] ∧ (∀ a o, a ≠ C → H4 a = some o → H' a = some o) ∧ H' C = some (.lst us) ∧ PcsAt C_Example C_Comment rows H' us ps ∧ ps ++ piecesL kept b (cuts.drop i) = piecesL kept 0 cuts ∧ us.length ≤ 2 * i ∧ badAll rows (cuts.drop i) = badAll rows cuts) ⟨_, 0, [], [], rfl, fun _ _ _ e => e, eC4, trivial, rfl, Nat.zero_le _, rfl⟩ (fun i σ H' _ h => by
      obtain ⟨_, _, _, _, _, ks, _⟩ := h
      exact SqL.of (ks _ _ qC eq)) ?_ ?_
    · rintro i v σ H' hv ⟨v6, b, us, ps, rfl, ks, eL, hp', he, hul, hba⟩
      rw [List.getElem?_map] at hv
      obtain ⟨t, ht, rfl⟩ := Option.map_eq_some_iff.mp hv
      obtain ⟨c, hcut, hct⟩ := hc.get ht
      have hi : i < cuts.length := (List.getElem?_eq_some_iff.mp hcut).1
      have hci : cuts[i] = c := by
        rw [List.getElem?_eq_getElem hi] at hcut
        exact Option.some.inj hcut
      have hd : cuts.drop i = c :: cuts.drop (i + 1) := by rw [List.drop_eq_getElem_cons hi, hci]
      rw [hd] at he hba
      obtain ⟨rc, nd⟩ := right c (List.mem_of_getElem? hcut)
      have tC' : t ≠ C := fun e => by
        rw [e, eC4] at hct
        cases hct
      have am := rc.am
      have me := rc.me
      have ew := rc.ew
      have et := ks _ _ tC' hct
      refine ⟨fun σ' H'' => ∃ us' : List V, σ' = [some (.str x), some (.str X), some (.ref p2), some (.ref p3), some (.ref C), some (.int (b : Int)), some (.ref t)] ∧ (∀ a o, a ≠ C → H4 a = some o → H'' a = some o) ∧ H'' C = some (.lst us') ∧ PcsAt C_Example C_Comment rows H'' us' (ps ++ gapP kept b c.1) ∧ us'.length ≤ 2 * i + 1, ⟨.int (b : Int), rfl, .ref t, rfl, t, _, 0, .int (c.1 : Int), rfl, rfl, SqT.of et, atI_nat (j := 0) rfl, _, _, rfl, rfl, _, rfl, ?_⟩, ?_⟩
      · by_cases hb : b < c.1
        · rw [decide_eq_true (by omega)]
          refine iteT ⟨.ref C, rfl, .inl ⟨rfl, _, SqL.of eL⟩, ⟨_, rfl⟩, .ref p2, rfl, .int (b : Int), rfl, _, rfl, .ref t, rfl, t, _, 0, .int (c.1 : Int), rfl, rfl, SqT.of et, atI_nat (j := 0) rfl, _, rfl, p2, _, rfl, SqL.of (ks _ _ p2C e24), fun y ny => ?_⟩
          have ecv : cutV ((kept.map mk).map V.str) (some (b : Int)) (some (c.1 : Int)) = (((kept.drop b).take (c.1 - b)).map mk).map V.str := by
            rw [cutV_seg _ b c.1 (by omega) (by rw [hlen]; omega), List.map_take, List.map_take, List.map_drop, List.map_drop]
          rw [ecv]
          have sy := same_new (o := .lst ((((kept.drop b).take (c.1 - b)).map mk).map V.str)) ny
          refine ⟨"", y, ((kept.drop b).take (c.1 - b)).map mk, rfl, rfl, .inl (SqL.of upd_same), jsz _ _, C, us, _, rfl, rfl, sy _ _ eL, Nat.lt_of_le_of_lt (show us.length ≤ 100000 by omega) (by decide), us ++ [.str (mk (joinL [] ((kept.drop b).take (c.1 - b))))], rfl, fun z o zn ez => ?_, ?_, ?_, ?_⟩
          · rw [upd_ne zn]
            exact sy _ _ (ks _ _ zn ez)
          · rw [upd_same, jtx]
          · unfold gapP
            rw [if_pos hb]
            exact PcsAt.app (PcsAt.txt _) ((hp'.nl (NL.same sy)).nl (NL.upd (sy _ _ eL)))
          · rw [List.length_append]
            show us.length + 1 ≤ _
            omega
        · rw [decide_eq_false (by omega)]
          refine iteF ⟨us, rfl, ks, eL, ?_, by omega⟩
          unfold gapP
          rw [if_neg hb, List.append_nil]
          exact hp'
      rintro σ' H'' ⟨us', rfl, ks', eL', hp'', hul'⟩
      have et' := ks' _ _ tC' hct
      refine ⟨.ref C, rfl, .inl ⟨rfl, _, SqL.of eL'⟩, .ref p3, rfl, .ref t, rfl, p3, t, rows, c.1, c.2.1, c.2.2, ldAt rows c.1, rfl, ks' _ _ p3C e34, et', hs, rc, r10, by omega, fun l hl => ?_, r9, nd, fun hbn H5 q' dx fs s5 nq' hpc => ⟨C, us', .ref q', rfl, rfl, s5 _ _ eL', Nat.lt_of_le_of_lt (show us'.length ≤ 100000 by omega) (by decide), .ref t, rfl, t, [.int (c.1 : Int), .int (c.2.1 : Int), .int (c.2.2 : Int)], 2, .int (c.2.2 : Int), rfl, rfl, SqT.of ?_, atI_nat (j := 2) rfl, _, c.2.2, us' ++ [.ref q'], (ps ++ gapP kept b c.1) ++ [.inr c], rfl, fun z o zn ez => ?_, upd_same, ?_, ?_, ?_, ?_⟩, fun rf hrf H5 dd s5 nd5 ed5 => kE ((c.1 : Int) + 1) rf.1 rf.2 (by rw [← hba]; unfold badAll; rw [hrf]) H5 dd (fun z o ez => s5 _ _ (ks' _ _ (ne_of_none ez nCH) (sH4 _ _ ez))) (by
        cases h : H dd with
        | none => rfl
        | some o =>
          rw [ks' _ _ (ne_of_none h nCH) (sH4 _ _ h)] at nd5
          cases nd5) ed5⟩
      · unfold ldAt
        rw [List.getD_eq_getElem?_getD, hl]
        rfl
      · rw [upd_ne tC']
        exact s5 _ _ et'
      · rw [upd_ne zn]
        exact s5 _ _ (ks' _ _ zn ez)
      · have pi : PieceIs C_Example C_Comment rows H5 c (.ref q') := ⟨q', dx, fs, rfl, hpc⟩
        exact PcsAt.app (PcsAt.pc (pi.nl (NL.upd (s5 _ _ eL')))) ((hp''.nl (NL.same s5)).nl (NL.upd (s5 _ _ eL')))
      · rw [List.append_assoc, List.append_assoc]
        exact he
      · rw [List.length_append]
        show us'.length + 1 ≤ _
        omega
      · rw [← hba, badAll, hbn]
    · rintro σ H' ⟨v6, b, us, ps, rfl, ks, eL, hp', he, hul, hba⟩
      rw [List.length_map, hc.len] at he hul hba
      rw [List.drop_length] at he hba
      refine ⟨fun σ' H'' => ∃ us' : List V, σ' = [some (.str x), some (.str X), some (.ref p2), some (.ref p3), some (.ref C), some (.int (b : Int)), v6] ∧ (∀ a o, a ≠ C → H4 a = some o → H'' a = some o) ∧ H'' C = some (.lst us') ∧ PcsAt C_Example C_Comment rows H'' us' (ps ++ gapP kept b kept.length), ⟨.int (b : Int), rfl, .ref p2, rfl, p2, _, rfl, .inl (SqL.of (ks _ _ p2C e24)), _, _, rfl, rfl, _, rfl, ?_⟩, ?_⟩
      · rw [hlen]
        by_cases hb : b < kept.length
        · rw [decide_eq_true (by omega)]
          refine iteT ⟨.ref C, rfl, .inl ⟨rfl, _, SqL.of eL⟩, ⟨_, rfl⟩, .ref p2, rfl, .int (b : Int), rfl, _, rfl, p2, _, rfl, SqL.of (ks _ _ p2C e24), fun y ny => ?_⟩
          have ecv : cutV ((kept.map mk).map V.str) (some (b : Int)) none = (((kept.drop b).take (kept.length - b)).map mk).map V.str := by
            rw [cutV_drop _ _ (by rw [hlen]; omega), List.take_of_length_le (by rw [List.length_drop]; exact Nat.le_refl _), List.map_drop, List.map_drop]
          rw [ecv]
          have sy := same_new (o := .lst ((((kept.drop b).take (kept.length - b)).map mk).map V.str)) ny
          refine ⟨"", y, ((kept.drop b).take (kept.length - b)).map mk, rfl, rfl, .inl (SqL.of upd_same), jsz _ _, C, us, _, rfl, rfl, sy _ _ eL, Nat.lt_of_le_of_lt (show us.length ≤ 100000 by omega) (by decide), us ++ [.str (mk (joinL [] ((kept.drop b).take (kept.length - b))))], rfl, fun z o zn ez => ?_, ?_, ?_⟩
          · rw [upd_ne zn]
            exact sy _ _ (ks _ _ zn ez)
          · rw [upd_same, jtx]
          · unfold gapP
            rw [if_pos hb]
            exact PcsAt.app (PcsAt.txt _) ((hp'.nl (NL.same sy)).nl (NL.upd (sy _ _ eL)))
        · rw [decide_eq_false (by omega)]
          refine iteF ⟨us, rfl, ks, eL, ?_⟩
          unfold gapP
          rw [if_neg hb, List.append_nil]
          exact hp'
      rintro σ' H'' ⟨us', rfl, ks', eL', hp''⟩
      refine ⟨.ref C, rfl, k hba.symm _ C us' (fun z o ez => ks' _ _ (ne_of_none ez nCH) (sH4 _ _ ez)) nCH eL' ?_⟩
      rw [← he]
      exact hp''
end

/-! ### texts of parts -/
theorem lstrip_tl (x : Str) (goes : Nat → Bool) : tl (Txt.stripBy goes true false x) = (tl x).drop ((tl x).takeWhile goes).length := by
  have hl := lstrip_len x goes
  rw [stripBy_eq] at hl ⊢
  have hh : stripHi goes false x (stripLo goes true x) = x.length := rfl
  rw [hh] at hl ⊢
  obtain ⟨h1, _, _⟩ := lo_facts goes x
  have l1 : (Builtin.Str.strSub x (stripLo goes true x) x.length).length = x.length - stripLo goes true x := by
    rw [len_tl, tl_strSub, List.length_take, List.length_drop, ← len_tl]
    omega
  rw [l1] at hl
  have l2 := (List.takeWhile_sublist (l := tl x) goes).length_le
  rw [← len_tl] at l2
  have e : stripLo goes true x = ((tl x).takeWhile goes).length := by omega
  rw [tl_strSub, e]
  exact List.take_of_length_le (by rw [List.length_drop, ← len_tl]; exact Nat.le_refl _)
theorem lstrip_sp (l : List Nat) : Txt.lstripChars (mk l) " " = mk (l.drop (lead l)) := by
  refine ext_tl ?_
  rw [sp_one]
  unfold Txt.lstripChars
  rw [contains_one, lstrip_tl]
  rfl
theorem bg_eq (l : List Nat) {y : List Nat} (hy : y ≠ []) : bg (mk l) (mk y) = pre y (l.drop (lead l)) := by
  unfold bg
  rw [lstrip_sp]
  exact starts_pre _ hy
def P3 : List Nat := [62, 62, 62]
def D3 : List Nat := [46, 46, 46]
theorem gt3 : (">>>" : Str) = mk P3 := ext_tl (by decide +kernel)
theorem dots3 : ("..." : Str) = mk D3 := ext_tl (by decide +kernel)
theorem bgP (l : List Nat) : bg (mk l) ">>>" = pre P3 (l.drop (lead l)) := by
  rw [gt3]
  exact bg_eq l (by decide)
theorem pS_eq (l : List Nat) : pS l = pre D3 (l.drop (lead l)) := by
  unfold pS
  rw [dots3]
  exact bg_eq l (by decide)
def sps (n : Nat) : List Nat := List.replicate n 32
theorem lead_sps (n : Nat) (l : List Nat) : lead (sps n ++ l) = n + lead l := by
  induction n with
  | zero =>
    show lead ([] ++ l) = 0 + lead l
    rw [List.nil_append, Nat.zero_add]
  | succ n ih =>
    unfold sps at ih ⊢
    rw [List.replicate_succ, List.cons_append]
    unfold lead at ih ⊢
    rw [List.takeWhile_cons, if_pos (by decide), List.length_cons, ih]
    omega
theorem drop_sps (n : Nat) (l : List Nat) : (sps n ++ l).drop (lead (sps n ++ l)) = l.drop (lead l) := by
  rw [lead_sps, ← List.drop_drop]
  congr 1
  have e : (sps n).length = n := List.length_replicate
  rw [List.drop_append_of_le_length (by omega), List.drop_of_length_le (by omega), List.nil_append]
theorem drop_pre (n k : Nat) (l : List Nat) : (sps n ++ l).drop (n + k) = l.drop k := by
  rw [← List.drop_drop]
  congr 1
  have e : (sps n).length = n := List.length_replicate
  rw [List.drop_append_of_le_length (by omega), List.drop_of_length_le (by omega), List.nil_append]
theorem lead_ne {c : Nat} (l : List Nat) (h : (c == 32) = false) : lead (c :: l) = 0 := by
  unfold lead
  rw [List.takeWhile_cons, h]
  rfl
/-- a part of a text: lines of text; or an example or a comment (c) at an indent: its source lines with what stands behind their prompts, its expected lines -/
inductive NP where
  | txt (ls : List (List Nat))
  | ex (c : Bool) (D : Nat) (ss : List (List Nat × List Nat)) (ws : List (List Nat))
def srow (D : Nat) (p b : List Nat) : List Nat := sps D ++ (p ++ b)
def srows (D : Nat) : List (List Nat × List Nat) → List (List Nat)
  | [] => []
  | p :: r => srow D P3 p.2 :: r.map fun q => srow D D3 q.2
theorem srows_len (D : Nat) (ss : List (List Nat × List Nat)) : (srows D ss).length = ss.length := by
  cases ss with
  | nil => rfl
  | cons p r =>
    show (r.map _).length + 1 = r.length + 1
    rw [List.length_map]
def NP.rows : NP → List (List Nat)
  | .txt ls => ls
  | .ex _ D ss ws => srows D ss ++ ws.map (sps D ++ ·)
/-- a source line without a directive -/
def plainS (l : List Nat) : Prop := dirS (mk l) = "" ∧ bareS l = tl (Txt.rstripChars (mk l) " ")
/-- no more is asked of the directive of a source line here -/
def dirOk (_ : Bool) (_ : List Nat) : Prop := True
theorem dwL_nil {l : List Nat} (h : dirS (mk l) = "") : dwL l = [] := by
  unfold dwL dwS
  rw [h]
  decide +kernel
def BOk (p : List Nat × List Nat) : Prop := p.2 = 32 :: p.1 ∨ p.1 = [] ∧ p.2 = []
def NP.Ok : NP → Prop
  | .txt ls => ls ≠ [] ∧ ∀ l ∈ ls, bg (mk l) ">>>" = false
  | .ex c _ ss ws => ss ≠ [] ∧ (∀ p ∈ ss, BOk p ∧ dirOk c p.1) ∧ (ss.map (·.1)).all remL = c ∧ (∀ l ∈ ws, isBlank l = false ∧ bg (mk l) ">>>" = false) ∧ ∀ l r, ws = l :: r → pS l = false
def NP.First : NP → Prop
  | .txt ls => ∃ l r, ls = l :: r ∧ isBlank l = true
  | .ex .. => True
def NP.isTxt : NP → Bool
  | .txt _ => true
  | .ex .. => false
def SeqOk : List NP → Prop
  | [] => True
  | p :: r => p.Ok ∧ (∀ q r', r = q :: r' → q.First ∧ (p.isTxt = true → q.isTxt = false)) ∧ SeqOk r
def rowsAll (ps : List NP) : List (List Nat) := (ps.map NP.rows).flatten
theorem rowsAll_cons (p : NP) (r : List NP) : rowsAll (p :: r) = p.rows ++ rowsAll r := rfl
def cutsB (o : Nat) : List NP → List (Nat × Nat × Nat)
  | [] => []
  | .txt ls :: r => cutsB (o + ls.length) r
  | .ex _ _ ss ws :: r => (o, o + ss.length, o + ss.length + ws.length) :: cutsB (o + ss.length + ws.length) r
theorem bg_srow (D : Nat) (b : List Nat) : bg (mk (srow D P3 b)) ">>>" = true := by
  rw [bgP]
  unfold srow
  rw [drop_sps]
  have e : P3 ++ b = 62 :: ([62, 62] ++ b) := rfl
  rw [e, lead_ne _ (by decide), List.drop_zero]
  unfold pre
  show (([62, 62, 62] ++ b).take 3 == P3) = true
  rfl
theorem pS_srow (D : Nat) (b : List Nat) : pS (srow D P3 b) = false := by
  rw [pS_eq]
  unfold srow
  rw [drop_sps]
  have e : P3 ++ b = 62 :: ([62, 62] ++ b) := rfl
  rw [e, lead_ne _ (by decide), List.drop_zero]
  unfold pre
  show (([62, 62, 62] ++ b).take 3 == D3) = false
  rfl
theorem pS_drow (D : Nat) (b : List Nat) : pS (srow D D3 b) = true := by
  rw [pS_eq]
  unfold srow
  rw [drop_sps]
  have e : D3 ++ b = 46 :: ([46, 46] ++ b) := rfl
  rw [e, lead_ne _ (by decide), List.drop_zero]
  unfold pre
  show (([46, 46, 46] ++ b).take 3 == D3) = true
  rfl
theorem blank_drop {l : List Nat} (h : isBlank l = true) (k : Nat) : isBlank (l.drop k) = true := by
  unfold isBlank at h ⊢
  rw [List.all_eq_true] at h ⊢
  exact fun c hc => h c (List.mem_of_mem_drop hc)
theorem pS_blank {l : List Nat} (h : isBlank l = true) : pS l = false := by
  rw [pS_eq]
  have h2 := blank_drop h (lead l)
  generalize l.drop (lead l) = m at h2
  cases m with
  | nil => rfl
  | cons c r =>
    unfold isBlank at h2
    rw [List.all_cons, Bool.and_eq_true] at h2
    have h3 : (c == 46) = false := by
      rw [beq_eq_false_iff_ne]
      rintro rfl
      exact absurd h2.1 (by decide)
    show ((c :: r).take 3 == D3) = false
    rw [List.take_succ_cons]
    show (c :: r.take 2 == 46 :: [46, 46]) = false
    rw [List.cons_beq_cons, h3]
    rfl
theorem pE_blank {l : List Nat} (h : isBlank l = true) : pE l = false := by
  unfold pE
  rw [h]
  rfl
theorem runL_seg {p : List Nat → Bool} (pr seg post : List (List Nat)) (hs : ∀ l ∈ seg, p l = true) (hp : post = [] ∨ ∃ h t, post = h :: t ∧ p h = false) : runL p (pr ++ (seg ++ post)) pr.length = pr.length + seg.length := by
  unfold runL
  rw [List.drop_left' rfl]
  congr 2
  induction seg with
  | nil =>
    rw [List.nil_append]
    rcases hp with rfl | ⟨h, t, rfl, hh⟩
    · rfl
    · rw [List.takeWhile_cons, hh]
      rfl
  | cons a r ih =>
    rw [List.cons_append, List.takeWhile_cons, hs a (List.mem_cons_self ..), if_pos rfl, ih fun l hl => hs l (List.mem_cons_of_mem _ hl)]
theorem head_rows : ∀ (ps : List NP), SeqOk ps → (∀ q r, ps = q :: r → q.First) → rowsAll ps = [] ∨ ∃ h t, rowsAll ps = h :: t ∧ pS h = false ∧ pE h = false
  | [], _, _ => .inl rfl
  | .txt ls :: r, _, hf => by
    obtain ⟨l, r', rfl, hb⟩ := hf _ _ rfl
    exact .inr ⟨l, r' ++ rowsAll r, rfl, pS_blank hb, pE_blank hb⟩
  | .ex c D [] ws :: r, ho, _ => absurd rfl ho.1.1
  | .ex c D (p :: ss) ws :: r, _, _ => by
    refine .inr ⟨srow D P3 p.2, _, rfl, pS_srow _ _, ?_⟩
    unfold pE
    rw [bg_srow]
    exact Bool.and_false _
theorem skip_txt : ∀ (ls pr post : List (List Nat)), (∀ l ∈ ls, bg (mk l) ">>>" = false) → cutsL (pr ++ (ls ++ post)) pr.length = cutsL (pr ++ (ls ++ post)) (pr.length + ls.length)
  | [], pr, post, _ => rfl
  | l :: r, pr, post, h => by
    have ih := skip_txt r (pr ++ [l]) post fun m hm => h m (List.mem_cons_of_mem _ hm)
    have e : pr ++ [l] ++ (r ++ post) = pr ++ (l :: r ++ post) := by simp
    rw [e, List.length_append] at ih
    have hlt : pr.length < (pr ++ (l :: r ++ post)).length := by
      rw [List.length_append, List.cons_append, List.length_cons]
      omega
    have hg : (pr ++ (l :: r ++ post))[pr.length] = l := by
      rw [List.getElem_append_right (Nat.le_refl _)]
      simp
    rw [cutsL, dif_pos hlt, hg, h l (List.mem_cons_self ..), if_neg Bool.false_ne_true]
    rw [List.length_cons]
    show cutsL _ (pr.length + [l].length) = _
    rw [ih]
    congr 1
    show pr.length + 1 + r.length = pr.length + (r.length + 1)
    omega
theorem cuts_of_parts : ∀ (ps : List NP) (pr : List (List Nat)), SeqOk ps → cutsL (pr ++ rowsAll ps) pr.length = cutsB pr.length ps
  | [], pr, _ => by
    rw [cutsL, dif_neg (by rw [List.length_append]; show ¬ _ < _ + 0; omega)]
    rfl
  | .txt ls :: r, pr, ho => by
    have ih := cuts_of_parts r (pr ++ ls) ho.2.2
    rw [List.length_append, List.append_assoc] at ih
    rw [rowsAll_cons]
    show cutsL (pr ++ (ls ++ rowsAll r)) pr.length = cutsB (pr.length + ls.length) r
    rw [skip_txt ls pr (rowsAll r) ho.1.2, ih]
  | .ex c D [] ws :: r, pr, ho => absurd rfl ho.1.1
  | .ex c D (p :: ss) ws :: r, pr, ho => by
    obtain ⟨⟨_, hss, _, hws, hfw⟩, hnext, hr⟩ := ho
    have hh := head_rows r hr fun q r' e => (hnext q r' e).1
    have ih := cuts_of_parts r (pr ++ (srows D (p :: ss) ++ ws.map (sps D ++ ·))) hr
    have el : (pr ++ (srows D (p :: ss) ++ ws.map (sps D ++ ·))).length = pr.length + (p :: ss).length + ws.length := by
      rw [List.length_append, List.length_append, srows_len, List.length_map]
      omega
    rw [el] at ih
    rw [rowsAll_cons]
    show cutsL (pr ++ ((srows D (p :: ss) ++ ws.map (sps D ++ ·)) ++ rowsAll r)) pr.length = (pr.length, pr.length + (p :: ss).length, pr.length + (p :: ss).length + ws.length) :: cutsB (pr.length + (p :: ss).length + ws.length) r
    rw [List.append_assoc] at ih
    generalize hA : pr ++ ((srows D (p :: ss) ++ ws.map (sps D ++ ·)) ++ rowsAll r) = A at ih ⊢
    have a1 : A = pr ++ (srow D P3 p.2 :: (ss.map (fun q => srow D D3 q.2) ++ ws.map (sps D ++ ·) ++ rowsAll r)) := by rw [← hA]; rfl
    have a2 : A = (pr ++ [srow D P3 p.2]) ++ (ss.map (fun q => srow D D3 q.2) ++ (ws.map (sps D ++ ·) ++ rowsAll r)) := by rw [a1]; simp
    have a3 : A = (pr ++ srows D (p :: ss)) ++ (ws.map (sps D ++ ·) ++ rowsAll r) := by rw [← hA]; simp
    have hlt : pr.length < A.length := by
      rw [a1, List.length_append, List.length_cons]
      omega
    have hg : A[pr.length] = srow D P3 p.2 := by
      subst a1
      rw [List.getElem_append_right (Nat.le_refl _)]
      simp
    have r1 : runL pS A (pr.length + 1) = pr.length + (p :: ss).length := by
      have k := runL_seg (p := pS) (pr ++ [srow D P3 p.2]) (ss.map fun q => srow D D3 q.2) (ws.map (sps D ++ ·) ++ rowsAll r) (fun l hl => by
        obtain ⟨q, _, rfl⟩ := List.mem_map.mp hl
        exact pS_drow _ _) (by
        cases ws with
        | nil =>
          rw [List.map_nil, List.nil_append]
          rcases hh with e | ⟨h, t, e, h1, _⟩
          · exact .inl e
          · exact .inr ⟨h, t, e, h1⟩
        | cons w ws' =>
          refine .inr ⟨sps D ++ w, ws'.map (sps D ++ ·) ++ rowsAll r, rfl, ?_⟩
          have := hfw w ws' rfl
          rw [pS_eq] at this ⊢
          rw [drop_sps]
          exact this)
      rw [← a2, List.length_append, List.length_map] at k
      rw [List.length_cons]
      show runL pS A (pr.length + [srow D P3 p.2].length) = _
      rw [k]
      show pr.length + 1 + ss.length = pr.length + (ss.length + 1)
      omega
    have r2 : runL pE A (pr.length + (p :: ss).length) = pr.length + (p :: ss).length + ws.length := by
      have k := runL_seg (p := pE) (pr ++ srows D (p :: ss)) (ws.map (sps D ++ ·)) (rowsAll r) (fun l hl => by
        obtain ⟨w, hw, rfl⟩ := List.mem_map.mp hl
        obtain ⟨w1, w2⟩ := hws w hw
        unfold pE
        have hb : isBlank (sps D ++ w) = false := by
          unfold isBlank at w1 ⊢
          rw [List.all_append, w1, Bool.and_false]
        rw [bgP] at w2 ⊢
        rw [drop_sps, w2, hb]
        rfl) (by
        rcases hh with e | ⟨h, t, e, _, h2⟩
        · exact .inl e
        · exact .inr ⟨h, t, e, h2⟩)
      rw [← a3, List.length_append, srows_len, List.length_map] at k
      exact k
    rw [cutsL, dif_pos hlt, hg, bg_srow, if_pos rfl, r1, r2, ih]
/-- the pieces of parts, from a place on -/
def pcsB (kept : List (List Nat)) (o : Nat) : List NP → List (Str ⊕ (Nat × Nat × Nat))
  | [] => []
  | .txt ls :: r => .inl (mk (joinL [] ((kept.drop o).take ls.length))) :: pcsB kept (o + ls.length) r
  | .ex _ _ ss ws :: r => .inr (o, o + ss.length, o + ss.length + ws.length) :: pcsB kept (o + ss.length + ws.length) r
theorem gap_none (kept : List (List Nat)) (o : Nat) : gapP kept o o = [] := if_neg (Nat.lt_irrefl _)
theorem pieces_of_parts (kept : List (List Nat)) : ∀ (ps : List NP) (o : Nat), SeqOk ps → kept.length = o + (rowsAll ps).length → piecesL kept o (cutsB o ps) = pcsB kept o ps
  | [], o, _, hk => by
    show gapP kept o kept.length = []
    rw [show kept.length = o from hk]
    exact gap_none kept o
  | .ex c D ss ws :: r, o, ho, hk => by
    rw [rowsAll_cons, List.length_append] at hk
    have e : (NP.ex c D ss ws).rows.length = ss.length + ws.length := by
      show (srows D ss ++ ws.map (sps D ++ ·)).length = _
      rw [List.length_append, srows_len, List.length_map]
    rw [e] at hk
    have ih := pieces_of_parts kept r (o + ss.length + ws.length) ho.2.2 (by omega)
    show gapP kept o o ++ (.inr (o, o + ss.length, o + ss.length + ws.length) :: piecesL kept (o + ss.length + ws.length) (cutsB (o + ss.length + ws.length) r)) = _
    rw [ih, gap_none]
    rfl
  | [.txt ls], o, ho, hk => by
    have e : kept.length = o + ls.length := by
      rw [hk]
      show o + (ls ++ []).length = _
      rw [List.append_nil]
    have h0 : ls.length ≠ 0 := fun z => ho.1.1 (List.length_eq_zero_iff.mp z)
    show gapP kept o kept.length = _
    unfold gapP
    rw [if_pos (by omega), e, Nat.add_sub_cancel_left]
    rfl
  | .txt ls :: .txt ms :: r, o, ho, hk => by
    have h := (ho.2.1 _ _ rfl).2 rfl
    cases h
  | .txt ls :: .ex c D ss ws :: r, o, ho, hk => by
    rw [rowsAll_cons, List.length_append] at hk
    have ih := pieces_of_parts kept (.ex c D ss ws :: r) (o + ls.length) ho.2.2 (by
      have : (NP.txt ls).rows.length = ls.length := rfl
      omega)
    have h0 : ls.length ≠ 0 := fun z => ho.1.1 (List.length_eq_zero_iff.mp z)
    show gapP kept o (o + ls.length) ++ (.inr (o + ls.length, o + ls.length + ss.length, o + ls.length + ss.length + ws.length) :: piecesL kept (o + ls.length + ss.length + ws.length) (cutsB (o + ls.length + ss.length + ws.length) r)) = .inl _ :: pcsB kept (o + ls.length) (.ex c D ss ws :: r)
    rw [← ih]
    show _ = .inl _ :: (gapP kept (o + ls.length) (o + ls.length) ++ _)
    rw [gap_none]
    unfold gapP
    rw [if_pos (by omega), Nat.add_sub_cancel_left]
    rfl
theorem pre_app (S r : List Nat) : pre S (S ++ r) = true := by
  unfold pre
  rw [List.take_left' rfl]
  exact beq_self_eq_true S
theorem foldl_reps : ∀ (n : Nat) (acc : Array Nat), ((List.replicate n (#[32] : Array Nat)).foldl (· ++ ·) acc).toList = acc.toList ++ sps n
  | 0, acc => by
    show acc.toList = acc.toList ++ []
    rw [List.append_nil]
  | n + 1, acc => by
    rw [List.replicate_succ, List.foldl_cons, foldl_reps n, Array.toList_append, List.append_assoc]
    rfl
theorem mul_sps (n : Nat) : Txt.mul " " (n : Int) = mk (sps n) := by
  refine ext_tl ?_
  rw [sp_one]
  unfold Txt.mul
  split
  · rename_i h
    have : n = 0 := by omega
    subst this
    rfl
  · split
    · rename_i h1 h2
      rw [Bool.or_eq_true, beq_iff_eq, beq_iff_eq] at h2
      have : n = 1 := by
        rcases h2 with h2 | h2
        · omega
        · cases h2
      subst this
      rfl
    · show ((List.replicate (n : Int).toNat (#[32] : Array Nat)).foldl (· ++ ·) #[]).toList = sps n
      rw [Int.toNat_natCast, foldl_reps]
      rfl
theorem starts_sps (n : Nat) (l : List Nat) : Txt.startswith (mk (sps n ++ l)) (Txt.mul " " (n : Int)) = true := by
  rw [mul_sps]
  cases n with
  | zero =>
    have e : mk (sps 0) = "" := ext_tl (by decide +kernel)
    rw [e]
    exact starts_empty _
  | succ n => 
    exact (starts_pre (mk (sps (n + 1) ++ l)) (y := sps (n + 1)) (by unfold sps; rw [List.replicate_succ]; simp)).trans (pre_app _ _)
theorem starts_dot (n : Nat) (b : List Nat) : Txt.startswith (mk (srow n D3 b)) (Txt.mul " " (n : Int) ++ ".") = true := by
  have e : Txt.mul " " (n : Int) ++ "." = mk (sps n ++ [46]) := ext_tl (by
    rw [tl_append, mul_sps]
    show sps n ++ tl "." = sps n ++ [46]
    congr 1)
  rw [e]
  refine (starts_pre _ (by simp)).trans ?_
  show pre (sps n ++ [46]) (sps n ++ (46 :: ([46, 46] ++ b))) = true
  have e2 : sps n ++ (46 :: ([46, 46] ++ b)) = (sps n ++ [46]) ++ ([46, 46] ++ b) := by simp
  rw [e2]
  exact pre_app _ _
theorem drop_srow3 (D : Nat) {p : List Nat × List Nat} (h : BOk p) : (srow D P3 p.2).drop (D + 4) = p.1 := by
  unfold srow
  rw [drop_pre]
  rcases h with h | ⟨h1, h2⟩
  · rw [h]
    rfl
  · rw [h1, h2]
    rfl
theorem drop_drow3 (D : Nat) {p : List Nat × List Nat} (h : BOk p) : (srow D D3 p.2).drop (D + 4) = p.1 := by
  unfold srow
  rw [drop_pre]
  rcases h with h | ⟨h1, h2⟩
  · rw [h]
    rfl
  · rw [h1, h2]
    rfl
theorem srows_drop (D : Nat) : ∀ (ss : List (List Nat × List Nat)), (∀ p ∈ ss, BOk p) → (srows D ss).map (·.drop (D + 4)) = ss.map (·.1)
  | [], _ => rfl
  | p :: r, h => by
    show (srow D P3 p.2).drop (D + 4) :: (r.map fun q => srow D D3 q.2).map (·.drop (D + 4)) = p.1 :: r.map (·.1)
    rw [drop_srow3 D (h p (List.mem_cons_self ..)), List.map_map]
    congr 1
    exact List.map_congr_left fun q hq => drop_drow3 D (h q (List.mem_cons_of_mem _ hq))
theorem wants_drop (D : Nat) (ws : List (List Nat)) : (ws.map (sps D ++ ·)).map (·.drop D) = ws := by
  rw [List.map_map]
  refine (List.map_congr_left fun l _ => ?_).trans (List.map_id _)
  exact drop_pre D 0 l
theorem lead_srow (D : Nat) (b : List Nat) : lead (srow D P3 b) = D := by
  unfold srow
  rw [lead_sps]
  show D + lead (62 :: ([62, 62] ++ b)) = D
  rw [lead_ne _ (by decide)]
  exact Nat.add_zero D
theorem blank_cut (D : Nat) (P : List Nat) (hP : P.length = 3) {p : List Nat × List Nat} (h : BOk p) : inV (.str (cutS (mk (srow D P p.2)) (some ((D : Int) + 3)) (some ((D : Int) + 3 + 1)))) [.str "", .str " "] = true := by
  have e : cutS (mk (srow D P p.2)) (some ((D : Int) + 3)) (some ((D : Int) + 3 + 1)) = mk (p.2.take 1) := by
    refine ext_tl ?_
    have lz : D + 3 ≤ (mk (srow D P p.2)).length := by
      rw [mk_len]
      unfold srow
      rw [List.length_append, List.length_append, hP]
      have : (sps D).length = D := List.length_replicate
      omega
    have := cutS_mid (mk (srow D P p.2)) (D + 3) (D + 4) lz
    refine this.trans ?_
    show ((srow D P p.2).drop (D + 3)).take (D + 4 - (D + 3)) = p.2.take 1
    unfold srow
    rw [drop_pre, List.drop_left' hP, show D + 4 - (D + 3) = 1 by omega]
  rw [e]
  rcases h with h | ⟨_, h⟩
  · rw [h]
    show inV (.str (mk [32])) [.str "", .str " "] = true
    decide +kernel
  · rw [h]
    show inV (.str (mk [])) [.str "", .str " "] = true
    decide +kernel
theorem srows_get (D : Nat) {ss : List (List Nat × List Nat)} {j : Nat} {l : List Nat} (h : (srows D ss)[j]? = some l) : ∃ p ∈ ss, l = srow D (if j = 0 then P3 else D3) p.2 := by
  cases ss with
  | nil => cases h
  | cons p r =>
    cases j with
    | zero =>
      cases h
      exact ⟨p, List.mem_cons_self .., rfl⟩
    | succ j =>
      have h2 : (r.map fun q => srow D D3 q.2)[j]? = some l := h
      rw [List.getElem?_map] at h2
      obtain ⟨q, hq, rfl⟩ := Option.map_eq_some_iff.mp h2
      exact ⟨q, List.mem_cons_of_mem _ (List.mem_of_getElem? hq), rfl⟩
/-- an example or a comment among the lines -/
theorem ex_facts {c : Bool} {D : Nat} {ss : List (List Nat × List Nat)} {ws : List (List Nat)} (ok : (NP.ex c D ss ws).Ok) (pr post : List (List Nat)) {A : List (List Nat)} (hA : A = pr ++ ((NP.ex c D ss ws).rows ++ post)) :
    RightCut A pr.length (pr.length + ss.length) (pr.length + ss.length + ws.length) ∧ srcL A pr.length (pr.length + ss.length) (D + 4) = ss.map (·.1) ∧ srcL A (pr.length + ss.length) (pr.length + ss.length + ws.length) D = ws ∧ ldAt A pr.length = D := by
  obtain ⟨hne, hss, _, hws, _⟩ := ok
  have hb : ∀ p ∈ ss, BOk p := fun p hp => (hss p hp).1
  have a1 : A = pr ++ (srows D ss ++ (ws.map (sps D ++ ·) ++ post)) := by
    rw [hA]
    show pr ++ ((srows D ss ++ ws.map (sps D ++ ·)) ++ post) = _
    rw [List.append_assoc]
  have a2 : A = (pr ++ srows D ss) ++ (ws.map (sps D ++ ·) ++ post) := by rw [a1, List.append_assoc]
  have lS := srows_len D ss
  have lp : (pr ++ srows D ss).length = pr.length + ss.length := by rw [List.length_append, lS]
  have lw : (ws.map (sps D ++ ·)).length = ws.length := List.length_map _
  have lA : A.length = pr.length + ss.length + ws.length + post.length := by
    rw [a2, List.length_append, lp, List.length_append, lw]
    omega
  have pos : 0 < ss.length := Nat.pos_of_ne_zero fun z => hne (List.length_eq_zero_iff.mp z)
  have gs : ∀ j l, pr.length ≤ j → j < pr.length + ss.length → A[j]? = some l → (srows D ss)[j - pr.length]? = some l := fun j l h1 h2 h => by
    rw [a1, List.getElem?_append_right h1, List.getElem?_append_left (by omega)] at h
    exact h
  have gw : ∀ j l, pr.length + ss.length ≤ j → j < pr.length + ss.length + ws.length → A[j]? = some l → ∃ w, l = sps D ++ w := fun j l h1 h2 h => by
    rw [a2, List.getElem?_append_right (by omega), List.getElem?_append_left (by omega), List.getElem?_map] at h
    obtain ⟨w, _, rfl⟩ := Option.map_eq_some_iff.mp h
    exact ⟨w, rfl⟩
  have h0 : ∃ p ∈ ss, A[pr.length]? = some (srow D P3 p.2) := by
    have hlt : pr.length < A.length := by omega
    obtain ⟨p, hp, e⟩ := srows_get D (gs _ _ (Nat.le_refl _) (by omega) (List.getElem?_eq_getElem hlt))
    rw [Nat.sub_self, if_pos rfl] at e
    exact ⟨p, hp, by rw [List.getElem?_eq_getElem hlt, e]⟩
  obtain ⟨p0, hp0, e0⟩ := h0
  have ld : ldAt A pr.length = D := by
    unfold ldAt
    rw [List.getD_eq_getElem?_getD, e0]
    exact lead_srow D _
  have ldG : ∀ h : pr.length < A.length, lead A[pr.length] = D := fun h => by
    rw [List.getElem?_eq_getElem h] at e0
    rw [Option.some.inj e0]
    exact lead_srow D _
  refine ⟨⟨by omega, by omega, by omega, fun j l h1 h2 h => ?_, fun j l h1 h2 h => ?_, fun j l h1 h2 h => ?_⟩, ?_, ?_, ld⟩
  · rw [ldG]
    obtain ⟨p, hp, rfl⟩ := srows_get D (gs j l h1 h2 h)
    exact blank_cut D _ (by split <;> rfl) (hb p hp)
  · rw [ldG]
    obtain ⟨p, hp, rfl⟩ := srows_get D (gs j l (by omega) h2 h)
    rw [if_neg (by omega)]
    exact starts_dot D _
  · rw [ldG]
    obtain ⟨w, rfl⟩ := gw j l h1 h2 h
    exact starts_sps D w
  · unfold srcL
    rw [a1, List.drop_left' rfl, Nat.add_sub_cancel_left, List.take_left' lS]
    exact srows_drop D ss hb
  · unfold srcL
    rw [a2, List.drop_left' lp, Nat.add_sub_cancel_left, List.take_left' lw]
    exact wants_drop D ws

/-! ### zip in a comprehension -/
theorem kit_no {K : PySem.W.Frag} {t : Value} {C : Addr} (is : PySem.W.isClsIn K C = true) (ty : PySem.W.typeIn K (.ref C) = some (.type "type")) (sub : PySem.W.subIn K t (.ref C) = some false) (ne : t ≠ .ref C) : PySem.W.kitOne K t (.ref C) = some false := by
  have h1 : (PySem.W.clsIn K C).isSome = true := is
  have h2 : (t == Value.ref C) = false := beq_eq_false_iff_ne.mpr ne
  have h3 : ((PySem.W.clsIn K C).isSome && PySem.W.typeIn K (.ref C) == some (.type "type")) = true := by
    rw [h1, ty]
    rfl
  unfold PySem.W.kitOne PySem.W.kitCls
  rw [h2, if_neg Bool.false_ne_true]
  dsimp only
  rw [if_pos h3, sub]
/-- comprehensions over zip, as lc_list -/
theorem lc_zip {K : PySem.W.Frag} {a b : Addr} {xs ys : List V} {g : TG} {tt : TT} {te : TE} {vs : List Nat} {σ : L2.St} {H1 : Hp} {D : Addr} {Qd : Hp → Prop} (hl : xs.length = ys.length) (Pv : Nat → Hp → Prop) (h0 : Pv 0 (upd H1 D (.lst []))) (hq : ∀ i H, Pv i H → SqL K H a xs ∧ SqL K H b ys)
    (hs : ∀ i x y T H, xs[i]? = some x → ys[i]? = some y → Pv i H → H T = none → g (.ref T) (wipe σ vs) (upd H T (.tup [x, y])) fun σ2 H2 => wipe σ2 vs = wipe σ vs ∧ tt σ2 H2 fun b H3 =>
      if b = true then te σ2 H3 fun y H4 => ∃ acc, H4 D = some (.lst acc) ∧ acc.length < sizeLine ∧ Pv (i + 1) (upd H4 D (.lst (acc ++ [y]))) else Pv (i + 1) H3) (hd : ∀ H, Pv xs.length H → Qd H) :
    ∃ W : Nat → Nat → Hp → Prop, (∃ m, W 0 m (upd H1 D (.lst []))) ∧ ∀ i m H, W i m H →
      ((Itz K a b).stop i H ∧ Qd H) ∨ ((Itz K a b).go i H ∧ ∃ Nx : Hp → Prop, (∀ H', Nx H' → ∃ m', m' < m ∧ W (i + 1) m' H') ∧ ∀ x H', (Itz K a b).yld i H x H' → g x (wipe σ vs) H' fun σ2 H2 => wipe σ2 vs = wipe σ vs ∧ tt σ2 H2 fun b H3 =>
        if b = true then te σ2 H3 fun y H4 => ∃ acc, H4 D = some (.lst acc) ∧ acc.length < sizeLine ∧ Nx (upd H4 D (.lst (acc ++ [y]))) else Nx H3) := by
  refine ⟨fun i m H => m = xs.length - i ∧ i ≤ xs.length ∧ Pv i H, ⟨xs.length, rfl, Nat.zero_le _, h0⟩, ?_⟩
  rintro i m H ⟨rfl, hi, p⟩
  obtain ⟨q1, q2⟩ := hq i H p
  by_cases hlt : i < xs.length
  · have hlt2 : i < ys.length := by omega
    refine .inr ⟨⟨xs, ys, xs[i], ys[i], q1, q2, List.getElem?_eq_getElem hlt, List.getElem?_eq_getElem hlt2⟩, Pv (i + 1), fun H' p' => ⟨xs.length - (i + 1), by omega, rfl, hlt, p'⟩, ?_⟩
    rintro v H' ⟨T, x, y, rfl, nT, rfl, hx, hy⟩
    exact hs i x y T H (hx xs q1) (hy ys q2) p nT
  · have e : i = xs.length := by omega
    subst e
    exact .inl ⟨⟨xs, ys, q1, q2, .inl (Nat.le_refl _)⟩, hd H p⟩
theorem lc_zipT {K : PySem.W.Frag} {a b : Addr} {xs ys : List V} {g : TG} {tt : TT} {te : TE} {vs : List Nat} {σ : L2.St} {H1 : Hp} {D : Addr} {Qd : Hp → Prop} (hl : xs.length = ys.length) (Pv : Nat → Hp → Prop) (h0 : Pv 0 (upd H1 D (.lst []))) (hq : ∀ i H, Pv i H → SqT K H a xs ∧ SqT K H b ys)
    (hs : ∀ i x y T H, xs[i]? = some x → ys[i]? = some y → Pv i H → H T = none → g (.ref T) (wipe σ vs) (upd H T (.tup [x, y])) fun σ2 H2 => wipe σ2 vs = wipe σ vs ∧ tt σ2 H2 fun b H3 =>
      if b = true then te σ2 H3 fun y H4 => ∃ acc, H4 D = some (.lst acc) ∧ acc.length < sizeLine ∧ Pv (i + 1) (upd H4 D (.lst (acc ++ [y]))) else Pv (i + 1) H3) (hd : ∀ H, Pv xs.length H → Qd H) :
    ∃ W : Nat → Nat → Hp → Prop, (∃ m, W 0 m (upd H1 D (.lst []))) ∧ ∀ i m H, W i m H →
      ((RZ.ItzT K a b).stop i H ∧ Qd H) ∨ ((RZ.ItzT K a b).go i H ∧ ∃ Nx : Hp → Prop, (∀ H', Nx H' → ∃ m', m' < m ∧ W (i + 1) m' H') ∧ ∀ x H', (RZ.ItzT K a b).yld i H x H' → g x (wipe σ vs) H' fun σ2 H2 => wipe σ2 vs = wipe σ vs ∧ tt σ2 H2 fun b H3 =>
        if b = true then te σ2 H3 fun y H4 => ∃ acc, H4 D = some (.lst acc) ∧ acc.length < sizeLine ∧ Nx (upd H4 D (.lst (acc ++ [y]))) else Nx H3) := by
  refine ⟨fun i m H => m = xs.length - i ∧ i ≤ xs.length ∧ Pv i H, ⟨xs.length, rfl, Nat.zero_le _, h0⟩, ?_⟩
  rintro i m H ⟨rfl, hi, p⟩
  obtain ⟨q1, q2⟩ := hq i H p
  by_cases hlt : i < xs.length
  · have hlt2 : i < ys.length := by omega
    refine .inr ⟨⟨xs, ys, xs[i], ys[i], q1, q2, List.getElem?_eq_getElem hlt, List.getElem?_eq_getElem hlt2⟩, Pv (i + 1), fun H' p' => ⟨xs.length - (i + 1), by omega, rfl, hlt, p'⟩, ?_⟩
    rintro v H' ⟨T, x, y, rfl, nT, rfl, hx, hy⟩
    exact hs i x y T H (hx xs q1) (hy ys q2) p nT
  · have e : i = xs.length := by omega
    subst e
    exact .inl ⟨⟨xs, ys, q1, q2, .inl (Nat.le_refl _)⟩, hd H p⟩

/-! ### for over enumerate -/
theorem for_enum {K : PySem.W.Frag} {a : Addr} {xs : List V} {g : TG} {tb : TS} {D : Ends} {σ : L2.St} {H : Hp} (Pv : Nat → L2.St → Hp → Prop) (h0 : Pv 0 σ H) (hl : ∀ i σ H, i ≤ xs.length → Pv i σ H → SqL K H a xs)
    (hs : ∀ i x T σ H, xs[i]? = some x → Pv i σ H → H T = none → g (.ref T) σ (upd H T (.tup [.int (i : Nat), x])) fun σ2 H2 => tb { D with nx := Pv (i + 1), ct := Pv (i + 1), bk := D.nx } σ2 H2) (hd : ∀ σ H, Pv xs.length σ H → D.nx σ H) :
    ∃ W : Nat → Nat → L2.St → Hp → Prop, (∃ m, W 0 m σ H) ∧ ∀ i m σ H, W i m σ H →
      ((Ite K a).stop i H ∧ D.nx σ H) ∨ ((Ite K a).go i H ∧ ∃ N : L2.St → Hp → Prop, (∀ σ' H', N σ' H' → ∃ m', m' < m ∧ W (i + 1) m' σ' H') ∧ ∀ x H', (Ite K a).yld i H x H' → g x σ H' fun σ2 H2 => tb { D with nx := N, ct := N, bk := D.nx } σ2 H2) := by
  refine ⟨fun i m σ H => m = xs.length - i ∧ i ≤ xs.length ∧ Pv i σ H, ⟨xs.length, by simp, Nat.zero_le _, h0⟩, ?_⟩
  rintro i m σ H ⟨rfl, hi, p⟩
  have q := hl i σ H hi p
  by_cases hlt : i < xs.length
  · refine .inr ⟨⟨xs, xs[i], q, by simp [hlt]⟩, Pv (i + 1), fun σ' H' p' => ⟨xs.length - (i + 1), by omega, rfl, hlt, p'⟩, fun v H' y => ?_⟩
    obtain ⟨T, x, rfl, hT, rfl, hx⟩ := y
    exact hs i x T σ _ (hx xs q) p hT
  · have e : i = xs.length := by omega
    subst e
    exact .inl ⟨⟨xs, q, Nat.le_refl _⟩, hd σ H p⟩
theorem flat_snoc : ∀ (a : List (List Nat)) (b : List Nat), joinL [] (a ++ [b]) = joinL [] a ++ b
  | [], b => rfl
  | x :: r, b => by rw [List.cons_append, joinL_flat, flat_snoc r b, joinL_flat, List.append_assoc]

/-! ### lists of texts, and empty ones -/
/-- all signs are signs -/
def okS (x : Str) : Prop := strOkL (tl x) = true
where strOkL (l : List Nat) : Bool := l.all (· < 1114112)
theorem okS_iff {x : Str} : okS x ↔ ∀ c ∈ tl x, c < 1114112 := by
  unfold okS okS.strOkL
  rw [List.all_eq_true]
  exact ⟨fun h c hc => of_decide_eq_true (h c hc), fun h c hc => decide_eq_true (h c hc)⟩
theorem okS_str {x : Str} (h : okS x) : PyData.strOk x = true := by
  unfold PyData.strOk
  rw [Array.all_eq_true_iff_forall_mem]
  intro c hc
  exact decide_eq_true (okS_iff.mp h c (Array.mem_toList_iff.mpr hc))
theorem dp_strs {K : PySem.W.Frag} {H : Hp} : ∀ (ns : List Str), DpAll K H (ns.map V.str) (ns.map PyData.str)
  | [] => .nil
  | x :: r => .cons (.str x) (dp_strs r)
theorem canLay_strs (ns : List Str) (h : ∀ x ∈ ns, okS x) : PyData.canLayAll0 (ns.map PyData.str) = true := by
  induction ns with
  | nil => rfl
  | cons x r ih =>
    have h1 := okS_str (h x (List.mem_cons_self ..))
    have h2 := ih fun y hy => h y (List.mem_cons_of_mem _ hy)
    simp only [List.map_cons, PyData.canLayAll0, PyData.canLay0, Bool.and_eq_true]
    exact ⟨h1, h2⟩
theorem depth_strs (ns : List Str) : PyData.depthAll (ns.map PyData.str) ≤ 1 := by
  induction ns with
  | nil => simp [PyData.depthAll]
  | cons x r ih => simp [PyData.depthAll, PyData.depth]; omega
theorem shaped_strs (ns : List Str) (h : ∀ x ∈ ns, okS x) : SeqAt.shaped (.list (ns.map PyData.str)) = true := by
  have h1 := canLay_strs ns h
  have h2 := depth_strs ns
  simp [SeqAt.shaped, PyData.canLay0, PyData.depth, h1]
  omega
theorem eqv_nilS (ns : List Str) : PyData.eqv (.list (ns.map PyData.str)) (.list []) = ns.isEmpty := by
  cases ns <;> simp [PyData.eqv, PyData.eqvAll]

/-! ### a list, and an empty one -/
def rNeE (K : PySem.W.Frag) : R2 := fun x y H Q => ∃ (a b : Addr) (xs : List V), x = .ref a ∧ y = .ref b ∧ SqL K H a xs ∧ SqL K H b [] ∧ Q (.bl (!xs.isEmpty)) H
theorem op_neE {X : Cx} (hu : X.A.units + 64 < cLine) : OpR X (compareOp .NotEq) (rNeE X.K) := by
  intro pins s σ H x y v u Q I rx ry h
  obtain ⟨a, b, xs, rfl, rfl, ha, hb, q⟩ := h
  cases xs with
  | nil =>
    refine op_neD hu pins s σ H _ _ v u Q I rx ry ⟨_, _, .lst ha .nil, .lst hb .nil, shaped_strs [] nofun, shaped_strs [] nofun, ?_⟩
    have ev : PyData.eqv (.list []) (.list []) = true := eqv_nilS []
    rw [ev]
    exact q
  | cons c r =>
    cases (show v = Value.ref a from rx)
    cases (show u = Value.ref b from ry)
    obtain ⟨us, r1, p1, _⟩ := I.list ha
    obtain ⟨ws, r2, p2, _⟩ := I.list hb
    have hsz : (us.toArray.size != ws.toArray.size) = true := by
      rw [List.size_toArray, List.size_toArray, ← r1.length, ← r2.length]
      rfl
    exact SeqAt.RcNeAt.lists_lengths p1.isList p2.isList hsz (by omega) X.prog X.w X.xe _ ⟨.bl true, H, I, rfl, q⟩

/-! ### what is the same, to any depth -/
theorem op_is_bl {X : Cx} : OpR X (compareOp .Is) (fun x y H Q => ∃ a b : Bool, x = .bl a ∧ y = .bl b ∧ Q (.bl (a == b)) H) := by
  intro pins s σ H x y v u Q I rx ry h
  obtain ⟨a, b, rfl, rfl, q⟩ := h
  cases rx
  cases ry
  exact is_bool (fin_bl I q rfl)
def ScB (a : V) : Prop := a = .non ∨ (∃ s : Str, a = .str s) ∨ (∃ i : Int, a = .int i) ∨ ∃ b : Bool, a = .bl b
/-- the same, n levels at most -/
def Sm (H : Hp) : Nat → V → V → Prop
  | 0, _, _ => False
  | n + 1, x, y => (ScB y ∧ x = y) ∨ ∃ (p q : Addr) (xs ys : List V), x = .ref p ∧ y = .ref q ∧ (H p = some (.lst xs) ∧ H q = some (.lst ys) ∨ H p = some (.tup xs) ∧ H q = some (.tup ys)) ∧ Paired (Sm H n) xs ys ∧ xs.length ≤ 1000
theorem paired_imp {α β : Type} {F G : α → β → Prop} (h : ∀ x y, F x y → G x y) : ∀ {xs : List α} {ys : List β}, Paired F xs ys → Paired G xs ys
  | _, _, .nil => .nil
  | _, _, .cons a r => .cons (h _ _ a) (paired_imp h r)
theorem Sm.same {H H' : Hp} (s : Same H H') : ∀ {n : Nat} {x y : V}, Sm H n x y → Sm H' n x y
  | 0, _, _, h => h.elim
  | n + 1, x, y, h => by
    rcases h with h | ⟨p, q, xs, ys, h1, h2, h3, h4, h5⟩
    · exact .inl h
    · refine .inr ⟨p, q, xs, ys, h1, h2, ?_, paired_imp (fun _ _ k => Sm.same s k) h4, h5⟩
      rcases h3 with ⟨a, b⟩ | ⟨a, b⟩
      · exact .inl ⟨s _ _ a, s _ _ b⟩
      · exact .inr ⟨s _ _ a, s _ _ b⟩
theorem paired_at {α β : Type} {F : α → β → Prop} : ∀ {xs : List α} {ys : List β}, Paired F xs ys → ∀ {i : Nat} {x : α} {y : β}, xs[i]? = some x → ys[i]? = some y → F x y
  | _, _, .nil, i, x, y, h, _ => by cases h
  | _, _, .cons r t, 0, x, y, h, k => by
    cases h
    cases k
    exact r
  | _, _, .cons r t, i + 1, x, y, h, k => paired_at t (i := i) h k
def trues (n : Nat) : List V := (List.replicate n true).map V.bl
theorem trues_snoc (n : Nat) : trues n ++ [V.bl true] = trues (n + 1) := by
  unfold trues
  rw [List.replicate_succ', List.map_append]
  rfl
theorem trues_all (n : Nat) : (List.replicate n true).all id = true := by
  rw [List.all_eq_true]
  intro b hb
  exact (List.eq_of_mem_replicate hb)
theorem fnok_no {P : Program} {w : World} {K : PySem.W.Frag} {mg : Str → Option Value} {base : Heap} {CX : CXT} {k : Nat} {f : Addr} {fd : FuncData} {ps : List Str} {sp : Sp} (h : ∀ vs H Q E, ¬ sp vs H Q E) : FnOk P w K mg base CX k f fd ps sp :=
  ⟨fun vs H Q E q => (h _ _ _ _ q).elim, fun A outer s H args us vs Q E hr he hb hv hs => (h _ _ _ _ hs).elim⟩
section
variable {P : Program} {w : World} {K : PySem.W.Frag} {mg : Str → Option Value} {base : Heap}
def sp_law_same (n : Nat) : Sp := fun vs H Q _ => ∃ a b : V, vs = [a, b] ∧ Sm H n a b ∧ ∀ H', Same H H' → Q (.bl true) H'
theorem sp_law_same_no {vs : List V} {H : Hp} {Q : VK} {E : XK} (h : sp_law_same 0 vs H Q E) : False := by
  obtain ⟨a, b, _, h, _⟩ := h
  exact h
theorem ok_law_same {f : Addr} {fd : FuncData} {dvs : List V} (F : Fn K "_law_same" s_law_same dvs f fd) {n r : Nat} (O_law_same : Own P w K mg base "_law_same" r ["found", "due"] [] (sp_law_same n)) (m_all : mg "all" = none) (m_bool : mg "bool" = none) (m_int : mg "int" = none) (m_isinstance : mg "isinstance" = none) (m_len : mg "len" = none) (m_list : mg "list" = none) (m_tuple : mg "tuple" = none) (m_zip : mg "zip" = none) : FnOk P w K mg base CX0 (r + 1) f fd ["found", "due"] (sp_law_same (n + 1)) := by
  refine Fn.okN F sc_law_same (fun vs H Q E h => ?_) (fun cdv A outer s H vs Q E hr h => ?_)
  · obtain ⟨_, _, rfl, _⟩ := h
    rfl
  · obtain ⟨a, b, rfl, hs, k⟩ := h
    refine ⟨_, (pss_cons (ps_if (pt_val (pe_callB call_isiT (by rfl) m_isinstance (by decide +kernel) (pa_cons (pv 1) (pa_cons (pe_tup (pa_cons (pe_bltn (v := .ty "list") (by rfl) m_list (by decide +kernel) rfl) (pa_cons (pe_bltn (v := .ty "tuple") (by rfl) m_tuple (by decide +kernel) rfl) pa_nil))) pa_nil))))
          (pss_cons (ps_if (PW.pt (pw_or (pt_cmpR op_ne (pe_callB call_isi (by rfl) m_isinstance (by decide +kernel) (pa_cons (pv 0) (pa_cons (pe_bltn (v := .ty "list") (by rfl) m_list (by decide +kernel) rfl) pa_nil))) (pe_callB call_isi (by rfl) m_isinstance (by decide +kernel) (pa_cons (pv 1) (pa_cons (pe_bltn (v := .ty "list") (by rfl) m_list (by decide +kernel) rfl) pa_nil))) (nomark _)) (pw_or1 (pt_cmpR op_ne (pe_callB call_isi (by rfl) m_isinstance (by decide +kernel) (pa_cons (pv 0) (pa_cons (pe_bltn (v := .ty "tuple") (by rfl) m_tuple (by decide +kernel) rfl) pa_nil))) (pe_callB call_isi (by rfl) m_isinstance (by decide +kernel) (pa_cons (pv 1) (pa_cons (pe_bltn (v := .ty "tuple") (by rfl) m_tuple (by decide +kernel) rfl) pa_nil))) (nomark _)))))
                (pss_one (ps_ret pe_bl))
                pss_nil)
            (pss_one (ps_ret (pe_and (pe_cmpR op_eq (pe_callB call_len_seq (by rfl) m_len PySem.boot_len (pa_cons (pv 0) pa_nil)) (pe_callB call_len_seq (by rfl) m_len PySem.boot_len (pa_cons (pv 1) pa_nil)) (nomark _)) (pe_one (pe_callB (cr_all rfl) (by rfl) m_all (by decide +kernel) (pa_cons (pe_lc (own := [("one", 2), ("two", 3)]) (g := gTup K 2 (gCons (gName 2) (gCons (gName 3) gNil))) (tt := tYes) (by rfl) sc_law_same.nd (RZ.pi_zipA (by rfl) m_zip (pa_cons (pv 0) (pa_cons (pv 1) pa_nil))) (blkOk_by (own := [("one", 2), ("two", 3)]) (N := ["found", "due", "one", "two"]) (sc := defScope s_law_same) (by decide +kernel)) (fun _ _ _ _ _ => (pg_tup rfl (pgs_cons (pg_name (i := 2) sc_law_same.nd rfl (.inl rfl)) (pgs_cons (pg_name (i := 3) sc_law_same.nd rfl (.inl rfl)) pgs_nil)))) (fun _ _ _ _ _ => pts_nil) (fun _ _ _ _ _ => (pe_own O_law_same (hr.mono (by omega)) (by rfl) (pa_cons (pv 2) (pa_cons (pv 3) pa_nil))))) pa_nil)))))))
          pss_nil)
      (pss_cons (ps_if (pt_val (pe_callB call_isiT (by rfl) m_isinstance (by decide +kernel) (pa_cons (pv 1) (pa_cons (pe_tup (pa_cons (pe_bltn (v := .ty "bool") (by rfl) m_bool (by decide +kernel) rfl) (pa_cons (pe_bltn (v := .ty "int") (by rfl) m_int (by decide +kernel) rfl) pa_nil))) pa_nil))))
          (pss_one (ps_ret (pe_and (pe_callB call_isi (by rfl) m_isinstance (by decide +kernel) (pa_cons (pv 0) (pa_cons (pe_bltn (v := .ty "int") (by rfl) m_int (by decide +kernel) rfl) pa_nil))) (pe_and (pe_cmpR op_eq (pe_callB call_isi (by rfl) m_isinstance (by decide +kernel) (pa_cons (pv 0) (pa_cons (pe_bltn (v := .ty "bool") (by rfl) m_bool (by decide +kernel) rfl) pa_nil))) (pe_callB call_isi (by rfl) m_isinstance (by decide +kernel) (pa_cons (pv 1) (pa_cons (pe_bltn (v := .ty "bool") (by rfl) m_bool (by decide +kernel) rfl) pa_nil))) (nomark _)) (pe_one (pe_cmpR op_eq (pv 0) (pv 1) (nomark _)))))))
          pss_nil)
      (pss_one (ps_ret (pe_and (pe_cmpR op_is_bl (pe_callB call_isi (by rfl) m_isinstance (by decide +kernel) (pa_cons (pv 0) (pa_cons (pe_bltn (v := .ty "bool") (by rfl) m_bool (by decide +kernel) rfl) pa_nil))) pe_bl (nomark _)) (pe_one (pe_cmpR op_eq (pv 0) (pv 1) (nomark _)))))))), ?_⟩
    rcases hs with ⟨hsc, rfl⟩ | ⟨p, q, xs, ys, rfl, rfl, hl, hpr, hle⟩
    · obtain ⟨n1, kI, kB, ty, k1, k2, k3, k4⟩ : ∃ (n : String) (kI kB : Bool), (∀ H, TyX K H a (.type n)) ∧ PySem.W.kitOne K (.type n) (.type "list") = some false ∧ PySem.W.kitOne K (.type n) (.type "tuple") = some false ∧ PySem.W.kitOne K (.type n) (.type "bool") = some kB ∧ PySem.W.kitOne K (.type n) (.type "int") = some kI ∧ (kB = true → kI = true) := by
        rcases hsc with rfl | ⟨s, rfl⟩ | ⟨i, rfl⟩ | ⟨c, rfl⟩
        · exact ⟨"NoneType", false, false, fun H => .base .non, kit_ty (by decide +kernel), kit_ty (by decide +kernel), kit_ty (by decide +kernel), kit_ty (by decide +kernel), nofun⟩
        · exact ⟨"str", false, false, fun H => .base (.str s), kit_ty (by decide +kernel), kit_ty (by decide +kernel), kit_ty (by decide +kernel), kit_ty (by decide +kernel), nofun⟩
        · exact ⟨"int", true, false, fun H => .base (.int i), kit_ty (by decide +kernel), kit_ty (by decide +kernel), kit_ty (by decide +kernel), kit_ty (by decide +kernel), nofun⟩
        · exact ⟨"bool", true, true, fun H => .base (.bl c), kit_ty (by decide +kernel), kit_ty (by decide +kernel), kit_ty (by decide +kernel), kit_ty (by decide +kernel), fun _ => rfl⟩
      obtain ⟨k4, kk⟩ := k4
      have sc : scal a a = true := by rcases hsc with rfl | ⟨s, rfl⟩ | ⟨i, rfl⟩ | ⟨c, rfl⟩ <;> rfl
      refine ⟨a, rfl, by show 2 ≤ sizeLine; decide, fun T nT => ?_⟩
      have sT := same_new (o := .tup [.ty "list", .ty "tuple"]) nT
      have tT : (upd H T (.tup [.ty "list", .ty "tuple"])) T = some (.tup [.ty "list", .ty "tuple"]) := upd_same
      generalize upd H T (.tup [.ty "list", .ty "tuple"]) = H1 at sT tT ⊢
      refine ⟨a, T, [.ty "list", .ty "tuple"], _, _, false, rfl, tT, .cons (.ty "list") (.cons (.ty "tuple") .nil), ty H1, kitAny_cons (b := false) k1 (fun _ => kitAny_cons (b := false) k2 (fun _ => kitAny_nil) (fun h => Bool.noConfusion h)) (fun h => Bool.noConfusion h), false, rfl, iteF ?_⟩
      refine ⟨a, rfl, by show 2 ≤ sizeLine; decide, fun T2 nT2 => ?_⟩
      have sT2 := same_new (o := .tup [.ty "bool", .ty "int"]) nT2
      have tT2 : (upd H1 T2 (.tup [.ty "bool", .ty "int"])) T2 = some (.tup [.ty "bool", .ty "int"]) := upd_same
      generalize upd H1 T2 (.tup [.ty "bool", .ty "int"]) = H2 at sT2 tT2 ⊢
      have fin : Q (.bl (decide (a = a))) H2 := by
        rw [decide_eq_true rfl]
        exact k H2 (sT.trans sT2)
      cases kI with
      | false =>
        cases kB with
        | true => exact absurd (kk rfl) Bool.false_ne_true
        | false =>
          refine ⟨a, T2, [.ty "bool", .ty "int"], _, _, false, rfl, tT2, .cons (.ty "bool") (.cons (.ty "int") .nil), ty H2, kitAny_cons (b := false) k3 (fun _ => kitAny_cons (b := false) k4 (fun _ => kitAny_nil) (fun h => Bool.noConfusion h)) (fun h => Bool.noConfusion h), false, rfl, iteF ?_⟩
          exact ⟨a, rfl, _, _, _, _, false, rfl, .ty "bool", ty H2, k3, _, _, rfl, rfl, true, rfl, iteT ⟨a, rfl, a, rfl, sc, fin⟩⟩
      | true =>
        refine ⟨a, T2, [.ty "bool", .ty "int"], _, _, true, rfl, tT2, .cons (.ty "bool") (.cons (.ty "int") .nil), ty H2, kitAny_cons (b := kB) k3 (fun _ => kitAny_cons (b := true) k4 (fun h => Bool.noConfusion h) (fun _ => rfl)) (fun _ => rfl), true, rfl, iteT ?_⟩
        refine ⟨a, rfl, _, _, _, _, true, rfl, .ty "int", ty H2, k4, true, rfl, iteT ?_⟩
        refine ⟨a, rfl, _, _, _, _, kB, rfl, .ty "bool", ty H2, k3, a, rfl, _, _, _, _, kB, rfl, .ty "bool", ty H2, k3, rfl, true, congrArg V.bl (decide_eq_true rfl), iteT ⟨a, rfl, a, rfl, sc, fin⟩⟩
    · have hlen : xs.length = ys.length := Paired.length hpr
      refine ⟨.ref q, rfl, by show 2 ≤ sizeLine; decide, fun T nT => ?_⟩
      have sT := same_new (o := .tup [.ty "list", .ty "tuple"]) nT
      have tT : (upd H T (.tup [.ty "list", .ty "tuple"])) T = some (.tup [.ty "list", .ty "tuple"]) := upd_same
      generalize upd H T (.tup [.ty "list", .ty "tuple"]) = H1 at sT tT ⊢
      rcases hl with ⟨hp, hq⟩ | ⟨hp, hq⟩
      · have hp1 := sT _ _ hp
        have hq1 := sT _ _ hq
        refine ⟨.ref q, T, [.ty "list", .ty "tuple"], _, _, true, rfl, tT, .cons (.ty "list") (.cons (.ty "tuple") .nil), .base (.lst hq1), kitAny_cons (b := true) (kit_ty (by decide +kernel)) (fun h => Bool.noConfusion h) (fun _ => rfl), true, rfl, iteT ?_⟩
        refine ⟨.ref p, rfl, _, _, _, _, true, rfl, .ty "list", .base (.lst hp1), kit_ty (by decide +kernel), .ref q, rfl, _, _, _, _, true, rfl, .ty "list", .base (.lst hq1), kit_ty (by decide +kernel), rfl, _, rfl, ?_⟩
        rw [decide_eq_true (rfl : (V.bl true : V) = _)]
        refine iteF ⟨.ref p, rfl, _, _, _, _, false, rfl, .ty "tuple", .base (.lst hp1), kit_ty (by decide +kernel), .ref q, rfl, _, _, _, _, false, rfl, .ty "tuple", .base (.lst hq1), kit_ty (by decide +kernel), rfl, _, rfl, ?_⟩
        rw [decide_eq_true (rfl : (V.bl false : V) = _)]
        refine iteF ⟨.ref p, rfl, p, xs, rfl, .inl (SqL.of hp1), .ref q, rfl, q, ys, rfl, .inl (SqL.of hq1), rfl, true, congrArg V.bl (decide_eq_true (by rw [hlen])), iteT ⟨.ref p, rfl, .ref q, rfl, p, q, xs, ys, rfl, .inl ⟨SqL.of hp1, SqL.of hq1, fun C nC => ?_⟩⟩⟩
        refine lc_zip (K := K) (a := p) (b := q) (xs := xs) (ys := ys) hlen (fun i H2 => Same H1 H2 ∧ H2 C = some (.lst (trues i))) ⟨same_new nC, upd_same⟩ (fun i H2 h => ⟨SqL.of (h.1 _ _ hp1), SqL.of (h.1 _ _ hq1)⟩) ?_ ?_
        · rintro i x y T2 H2 hx hy ⟨s2, eC⟩ nT2
          have sT2 := same_new (o := .tup [x, y]) nT2
          refine ⟨T2, [x, y], rfl, SqT.of upd_same, rfl, _, _, rfl, _, _, rfl, rfl, rfl, ?_⟩
          unfold tYes
          show ite (true = true) _ _
          rw [if_pos rfl]
          have hi : i < xs.length := (List.getElem?_eq_some_iff.mp hx).1
          refine ⟨x, rfl, y, rfl, x, y, rfl, (paired_at hpr hx hy).same (sT.trans (s2.trans sT2)), fun H3 s3 => ⟨_, s3 _ _ (sT2 _ _ eC), ?_, fun b o e => ?_, ?_⟩⟩
          · unfold trues
            rw [List.length_map, List.length_replicate]
            exact Nat.lt_of_le_of_lt (show i ≤ 1000 by omega) (by decide)
          · rw [upd_ne (ne_of_none e nC)]
            exact s3 _ _ (sT2 _ _ (s2 _ _ e))
          · rw [upd_same, trues_snoc]
        · rintro H2 ⟨s2, eC⟩
          refine ⟨C, List.replicate xs.length true, rfl, SqL.of eC, ?_⟩
          rw [trues_all]
          exact k _ (sT.trans s2)
      · have hp1 := sT _ _ hp
        have hq1 := sT _ _ hq
        refine ⟨.ref q, T, [.ty "list", .ty "tuple"], _, _, true, rfl, tT, .cons (.ty "list") (.cons (.ty "tuple") .nil), .base (.tup hq1), kitAny_cons (b := false) (kit_ty (by decide +kernel)) (fun _ => kitAny_cons (b := true) (kit_ty (by decide +kernel)) (fun h => Bool.noConfusion h) (fun _ => rfl)) (fun h => Bool.noConfusion h), true, rfl, iteT ?_⟩
        refine ⟨.ref p, rfl, _, _, _, _, false, rfl, .ty "list", .base (.tup hp1), kit_ty (by decide +kernel), .ref q, rfl, _, _, _, _, false, rfl, .ty "list", .base (.tup hq1), kit_ty (by decide +kernel), rfl, _, rfl, ?_⟩
        rw [decide_eq_true (rfl : (V.bl false : V) = _)]
        refine iteF ⟨.ref p, rfl, _, _, _, _, true, rfl, .ty "tuple", .base (.tup hp1), kit_ty (by decide +kernel), .ref q, rfl, _, _, _, _, true, rfl, .ty "tuple", .base (.tup hq1), kit_ty (by decide +kernel), rfl, _, rfl, ?_⟩
        rw [decide_eq_true (rfl : (V.bl true : V) = _)]
        refine iteF ⟨.ref p, rfl, p, xs, rfl, .inr (SqT.of hp1), .ref q, rfl, q, ys, rfl, .inr (SqT.of hq1), rfl, true, congrArg V.bl (decide_eq_true (by rw [hlen])), iteT ⟨.ref p, rfl, .ref q, rfl, p, q, xs, ys, rfl, .inr ⟨SqT.of hp1, SqT.of hq1, fun C nC => ?_⟩⟩⟩
        refine lc_zipT (K := K) (a := p) (b := q) (xs := xs) (ys := ys) hlen (fun i H2 => Same H1 H2 ∧ H2 C = some (.lst (trues i))) ⟨same_new nC, upd_same⟩ (fun i H2 h => ⟨SqT.of (h.1 _ _ hp1), SqT.of (h.1 _ _ hq1)⟩) ?_ ?_
        · rintro i x y T2 H2 hx hy ⟨s2, eC⟩ nT2
          have sT2 := same_new (o := .tup [x, y]) nT2
          refine ⟨T2, [x, y], rfl, SqT.of upd_same, rfl, _, _, rfl, _, _, rfl, rfl, rfl, ?_⟩
          unfold tYes
          show ite (true = true) _ _
          rw [if_pos rfl]
          have hi : i < xs.length := (List.getElem?_eq_some_iff.mp hx).1
          refine ⟨x, rfl, y, rfl, x, y, rfl, (paired_at hpr hx hy).same (sT.trans (s2.trans sT2)), fun H3 s3 => ⟨_, s3 _ _ (sT2 _ _ eC), ?_, fun b o e => ?_, ?_⟩⟩
          · unfold trues
            rw [List.length_map, List.length_replicate]
            exact Nat.lt_of_le_of_lt (show i ≤ 1000 by omega) (by decide)
          · rw [upd_ne (ne_of_none e nC)]
            exact s3 _ _ (sT2 _ _ (s2 _ _ e))
          · rw [upd_same, trues_snoc]
        · rintro H2 ⟨s2, eC⟩
          refine ⟨C, List.replicate xs.length true, rfl, SqL.of eC, ?_⟩
          rw [trues_all]
          exact k _ (sT.trans s2)
end

/-! ### taken from other texts of ours -/
theorem fresh_ne {H : Hp} {D A B p : Addr} {n : Int} (d : Drw H D A B n) (h : H p = none) : p ≠ D ∧ p ≠ A := by
  obtain ⟨⟨_, e1⟩, ⟨_, e2⟩, _⟩ := d.tracked
  exact ⟨(ne_of_none e1 h).symm, (ne_of_none e2 h).symm⟩
theorem Kept.fresh {D A : Addr} {H H0 H1 : Hp} (s : Same H H0) (k : Kept D A H0 H1) : Kept D A H H1 := fun b o e n1 n2 => k b o (s b o e) n1 n2
theorem laid {H H1 : Hp} {p : Addr} {o : HO} (h : L2.upd H p o = H1) (n : H p = none) : Same H H1 ∧ H1 p = some o := by
  subst h
  exact ⟨same_new n, upd_same⟩
def intsV (js : List Nat) : List V := js.map fun j : Nat => V.int (j : Int)
theorem ints_of {js : List Nat} {i : Nat} {v : V} (h : (intsV js)[i]? = some v) : ∃ j ∈ js, v = .int (j : Int) := by
  unfold intsV at h
  rw [List.getElem?_map] at h
  obtain ⟨j, hj, rfl⟩ := Option.map_eq_some_iff.mp h
  exact ⟨j, List.mem_of_getElem? hj, rfl⟩
theorem mem_le {js : List Nat} {b j : Nat} (h : js.all (· ≤ b) = true) (hj : j ∈ js) : j ≤ b := of_decide_eq_true (List.all_eq_true.mp h j hj)
def okc (l : List Nat) : Bool := l.all fun c => decide (32 ≤ c) && decide (c < 127)
theorem rowsAll_app (a b : List NP) : rowsAll (a ++ b) = rowsAll a ++ rowsAll b := by
  unfold rowsAll
  rw [List.map_append, List.flatten_append]
theorem SeqOk.mem : ∀ {ps : List NP}, SeqOk ps → ∀ p ∈ ps, p.Ok
  | _ :: _, h, p, hp => by
    rcases List.mem_cons.mp hp with rfl | hp
    · exact h.1
    · exact SeqOk.mem h.2.2 p hp
theorem cutsB_mem : ∀ {ns : List NP} {o : Nat} {c : Nat × Nat × Nat}, c ∈ cutsB o ns → ∃ a c0 D ss ws b, ns = a ++ NP.ex c0 D ss ws :: b ∧ c = (o + (rowsAll a).length, o + (rowsAll a).length + ss.length, o + (rowsAll a).length + ss.length + ws.length)
  | .txt ls :: r, o, c, h => by
    obtain ⟨a, c0, D, ss, ws, b, rfl, e⟩ := cutsB_mem (ns := r) h
    refine ⟨.txt ls :: a, c0, D, ss, ws, b, rfl, ?_⟩
    rw [e, rowsAll_cons, List.length_append, show (NP.txt ls).rows.length = ls.length from rfl, ← Nat.add_assoc]
  | .ex c0 D ss ws :: r, o, c, h => by
    rcases List.mem_cons.mp h with e | h
    · exact ⟨[], c0, D, ss, ws, r, rfl, e⟩
    · obtain ⟨a, c1, D1, ss1, ws1, b, rfl, e⟩ := cutsB_mem (ns := r) h
      refine ⟨.ex c0 D ss ws :: a, c1, D1, ss1, ws1, b, rfl, ?_⟩
      have el : (NP.ex c0 D ss ws).rows.length = ss.length + ws.length := by
        show (srows D ss ++ ws.map (sps D ++ ·)).length = _
        rw [List.length_append, srows_len, List.length_map]
      rw [e, rowsAll_cons, List.length_append, el, ← Nat.add_assoc, ← Nat.add_assoc]
theorem expT_id {l : List Nat} (h : okc l = true) : ∀ col, Mun.expT 8 col l = l := by
  induction l with
  | nil => exact fun _ => rfl
  | cons c r ih =>
    intro col
    unfold okc at h
    rw [List.all_cons, Bool.and_eq_true, Bool.and_eq_true, decide_eq_true_eq, decide_eq_true_eq] at h
    rw [expc (by omega), if_neg (by omega), ih h.2]
theorem ten_last : ∀ ls : List (List Nat), ls ≠ [] → joinL [10] ls ++ [10] = joinL [10] (ls ++ [[]])
  | [], h => absurd rfl h
  | [a], _ => by
    show a ++ [10] = a ++ ([10] ++ [])
    rfl
  | a :: b :: r, _ => by
    rw [List.cons_append, joinL_more (ps := b :: r) _ _ (List.cons_ne_nil b r), joinL_more (ps := (b :: r) ++ [[]]) _ _ (by simp), ← ten_last (b :: r) (List.cons_ne_nil b r), List.append_assoc, List.append_assoc]
theorem exp_rows {ls : List (List Nat)} (h : ∀ l ∈ ls, okc l = true) : ls.map (Mun.expT 8 0) = ls := by
  refine (List.map_congr_left fun l hl => ?_).trans (List.map_id _)
  exact expT_id (h l hl) 0
theorem leads_end (R1 : List (List Nat)) : leads (R1 ++ [[]]) = leads R1 := by
  unfold leads
  rw [List.filter_append]
  show (R1.filter _ ++ []).map lead = _
  rw [List.append_nil]
/-- what parsed finds in the text of parts -/
theorem few_of {ls : List (List Nat)} (h : ∀ l ∈ ls, l.length ≤ 200) (n : ls.length ≤ 400) : (wordsAll ls).length ≤ 100000 := by
  have key : ∀ x : List (List Nat), (∀ l ∈ x, l.length ≤ 200) → (wordsAll x).length ≤ x.length * 201 := fun x => by
    induction x with
    | nil => exact fun _ => Nat.zero_le _
    | cons a r ih =>
      intro hx
      have h1 := ih fun l hl => hx l (List.mem_cons_of_mem _ hl)
      have h2 : (dwL a).length ≤ a.length + 1 := by
        have e44 : ("," : Str) = ⟨[44].toArray⟩ := ext_tl (by decide +kernel)
        have lr : (Txt.replace (behindC (dirS (mk a))) "," " ").length = (behindC (dirS (mk a))).length := by
          rw [len_tl, e44, sp_eq, replace_map (behindC (dirS (mk a))) 44 32, List.length_map, ← len_tl]
        have z1 := (behind_sub (dirS (mk a))).2
        have z2 := (dirS_sub (mk a)).2
        rw [mk_len] at z2
        have z3 := (split_sizes (Txt.replace (behindC (dirS (mk a))) "," " ") (y := [32]) (by simp) (by decide)).2
        have z4 : (dwL a).length ≤ (Txt.split (Txt.replace (behindC (dirS (mk a))) "," " ") ⟨[32].toArray⟩).length := by
          unfold dwL dwS wordsS
          rw [sp_eq]
          exact List.length_filter_le _ _
        omega
      have h3 := hx a (List.mem_cons_self ..)
      have h4 : (wordsAll (a :: r)).length = (dwL a).length + (wordsAll r).length := by
        unfold wordsAll
        rw [List.map_cons, List.flatten_cons, List.length_append]
      rw [h4, List.length_cons, Nat.succ_mul]
      omega
  have := key ls h
  have : ls.length * 201 ≤ 400 * 201 := Nat.mul_le_mul_right _ n
  omega

/-! ### directives of lines, as lists -/
theorem at_one (x : Str) (c i : Nat) : StrLaws.At x ⟨#[c]⟩ x.length i ↔ (tl x)[i]? = some c := StrLaws.subAt_one x c i
def isQ (c : Nat) : Bool := c == 39 || c == 34
theorem rfind_one (x : Str) (c : Nat) : (Txt.rfind x ⟨#[c]⟩ = -1 ∧ ∀ k : Nat, (tl x)[k]? ≠ some c) ∨ ∃ i : Nat, Txt.rfind x ⟨#[c]⟩ = (i : Int) ∧ (tl x)[i]? = some c ∧ ∀ k : Nat, i < k → (tl x)[k]? ≠ some c := by
  unfold Txt.rfind
  rcases StrLaws.last_spec x ⟨#[c]⟩ with ⟨h, n⟩ | ⟨i, h, a, n⟩
  · rw [h]
    exact .inl ⟨rfl, fun k e => n k ((at_one x c k).mpr e)⟩
  · rw [h]
    exact .inr ⟨i, rfl, (at_one x c i).mp a, fun k hk e => n k hk ((at_one x c k).mpr e)⟩
theorem lastQ_at {x : Str} {A B : List Nat} (h : tl x = A ++ B) (hB : ∀ c ∈ B, isQ c = false) (hA : A = [] ∨ ∃ A' q, A = A' ++ [q] ∧ isQ q = true) : lastQ x + 1 = (A.length : Int) := by
  have e1 : ("'" : Str) = ⟨#[39]⟩ := ext_tl (by decide +kernel)
  have e2 : ("\"" : Str) = ⟨#[34]⟩ := ext_tl (by decide +kernel)
  have late : ∀ (k c : Nat), A.length ≤ k → isQ c = true → (tl x)[k]? ≠ some c := fun k c hk hc e => by
    rw [h, List.getElem?_append_right hk] at e
    have := hB c (List.mem_of_getElem? e)
    rw [hc] at this
    cases this
  have early : ∀ (k c : Nat), isQ c = true → (tl x)[k]? = some c → k < A.length := fun k c hc e => by
    rcases Nat.lt_or_ge k A.length with q | q
    · exact q
    · exact absurd e (late k c q hc)
  unfold lastQ
  rw [e1, e2]
  rcases hA with rfl | ⟨A', q, rfl, hq⟩
  · have n1 : Txt.rfind x ⟨#[39]⟩ = -1 := by
      rcases rfind_one x 39 with ⟨r, _⟩ | ⟨i, _, r, _⟩
      · exact r
      · exact absurd (early i 39 rfl r) (Nat.not_lt_zero _)
    have n2 : Txt.rfind x ⟨#[34]⟩ = -1 := by
      rcases rfind_one x 34 with ⟨r, _⟩ | ⟨i, _, r, _⟩
      · exact r
      · exact absurd (early i 34 rfl r) (Nat.not_lt_zero _)
    rw [n1, n2]
    rfl
  · have hl : (A' ++ [q]).length = A'.length + 1 := by simp
    have hat : (tl x)[A'.length]? = some q := by
      rw [h, List.append_assoc, List.getElem?_append_right (Nat.le_refl _), Nat.sub_self]
      rfl
    have up : ∀ c, isQ c = true → (Txt.rfind x ⟨#[c]⟩ ≤ (A'.length : Int)) := fun c hc => by
      rcases rfind_one x c with ⟨r, _⟩ | ⟨i, e, r, _⟩
      · rw [r]
        omega
      · rw [e]
        have := early i c hc r
        omega
    have lo : Txt.rfind x ⟨#[q]⟩ = (A'.length : Int) := by
      have u := up q hq
      rcases rfind_one x q with ⟨_, r⟩ | ⟨i, e, r, n⟩
      · exact absurd hat (r _)
      · rw [e] at u ⊢
        rcases Nat.lt_or_ge i A'.length with z | z
        · exact absurd hat (n _ z)
        · omega
    have u1 := up 39 rfl
    have u2 := up 34 rfl
    rw [hl]
    have hq2 : q = 39 ∨ q = 34 := by
      unfold isQ at hq
      rw [Bool.or_eq_true, beq_iff_eq, beq_iff_eq] at hq
      exact hq
    rcases hq2 with rfl | rfl
    · rw [lo]
      split <;> omega
    · rw [lo]
      split <;> omega
def mkL (r : List Nat) : Bool := pre [100, 111, 99, 116, 101, 115, 116, 58] (r.dropWhile fun c => c == 32 || c == 9)
def scanL : List Nat → List Nat
  | [] => []
  | c :: r => if (c == 35 && mkL r) = true then c :: r else scanL r
theorem scan_no {P : List Nat} (h : (35 : Nat) ∉ P) (r : List Nat) : scanL (P ++ r) = scanL r := by
  induction P with
  | nil => rfl
  | cons c P ih =>
    rw [List.mem_cons, not_or] at h
    have e : (c == 35) = false := beq_eq_false_iff_ne.mpr (Ne.symm h.1)
    show (if (c == 35 && mkL (P ++ r)) = true then c :: (P ++ r) else scanL (P ++ r)) = scanL r
    rw [e, Bool.false_and, if_neg Bool.false_ne_true]
    exact ih h.2
theorem scan_none {B : List Nat} (h : (35 : Nat) ∉ B) : scanL B = [] := by
  have := scan_no h []
  rw [List.append_nil] at this
  exact this
theorem drop_tw (p : Nat → Bool) : ∀ R : List Nat, R.drop (R.takeWhile p).length = R.dropWhile p
  | [] => rfl
  | a :: r => by
    have ih := drop_tw p r
    rw [List.takeWhile_cons, List.dropWhile_cons]
    cases p a with
    | true => 
      rw [if_pos rfl, if_pos rfl]
      exact ih
    | false => rfl
theorem mark_eq {x : Str} {A R : List Nat} (h : tl x = A ++ 35 :: R) : markAt x (A.length : Int) = mkL R := by
  have e0 : (" \t" : Str) = ⟨#[32, 9]⟩ := ext_tl (by decide +kernel)
  have e1 : ("doctest:" : Str) = ⟨[100, 111, 99, 116, 101, 115, 116, 58].toArray⟩ := ext_tl (by decide +kernel)
  have ec : cutS x (some ((A.length : Int) + 1)) none = mk R := by
    have := cutS_from x (A.length + 1)
    refine ext_tl ?_
    have e2 : ((A.length + 1 : Nat) : Int) = (A.length : Int) + 1 := rfl
    rw [← e2, this, h]
    have e3 : A ++ 35 :: R = (A ++ [35]) ++ R := by simp
    rw [e3, List.drop_left' (by simp)]
    rfl
  unfold markAt mkL
  rw [ec, e1, starts_pre _ (by simp)]
  congr 1
  rw [e0]
  unfold Txt.lstripChars
  have e4 : (#[32, 9] : Array Nat).contains = fun c => c == 32 || c == 9 := by
    funext c
    rw [Bool.eq_iff_iff, Array.contains_iff_mem, Bool.or_eq_true, beq_iff_eq, beq_iff_eq]
    simp
  rw [e4, lstrip_tl]
  generalize (fun c : Nat => c == 32 || c == 9) = p
  exact drop_tw p R
theorem find3_drop {x : Str} {A B : List Nat} (h : tl x = A ++ B) : (Txt.find3 x "#" (A.length : Int) = -1 ∧ (35 : Nat) ∉ B) ∨ ∃ P R, B = P ++ 35 :: R ∧ (35 : Nat) ∉ P ∧ Txt.find3 x "#" (A.length : Int) = ((A ++ P).length : Int) := by
  have e : ("#" : Str) = ⟨#[35]⟩ := ext_tl (by decide +kernel)
  have lx : x.length = A.length + B.length := by rw [len_tl, h, List.length_append]
  have fi : fromIndex x.length (A.length : Int) = A.length := by
    unfold fromIndex
    rw [if_neg (by omega)]
    simp
  have hB : ∀ k : Nat, (tl x)[A.length + k]? = B[k]? := fun k => by
    rw [h, List.getElem?_append_right (by omega), Nat.add_sub_cancel_left]
  unfold Txt.find3
  rw [fi]
  rcases StrLaws.occ_head_from x "#" A.length 1 (Nat.le_refl _) with ⟨h0, n⟩ | ⟨j, r, h0, h1, hj, n⟩
  · rw [h0]
    refine .inl ⟨rfl, fun hm => ?_⟩
    obtain ⟨k, hk⟩ := List.getElem?_of_mem hm
    rw [e] at n
    exact n (A.length + k) (by omega) ((at_one x 35 _).mpr ((hB k).trans hk))
  · rw [h0]
    rw [e] at hj n
    obtain ⟨k, rfl⟩ : ∃ k, j = A.length + k := ⟨j - A.length, by omega⟩
    have hk := (hB k).symm.trans ((at_one x 35 _).mp hj)
    have hkl : k < B.length := (List.getElem?_eq_some_iff.mp hk).1
    refine .inr ⟨B.take k, B.drop (k + 1), ?_, fun hm => ?_, ?_⟩
    · have hd : B.drop k = 35 :: B.drop (k + 1) := by
        rw [List.drop_eq_getElem_cons hkl, (List.getElem?_eq_some_iff.mp hk).2]
      rw [← hd, List.take_append_drop]
    · obtain ⟨i, hi⟩ := List.getElem?_of_mem hm
      have hik : i < k := by
        have := (List.getElem?_eq_some_iff.mp hi).1
        rw [List.length_take] at this
        omega
      rw [List.getElem?_take, if_pos hik] at hi
      exact n (A.length + i) (by omega) (by omega) ((at_one x 35 _).mpr ((hB i).trans hi))
    · show ((A.length + k : Nat) : Int) = _
      rw [List.length_append, List.length_take, Nat.min_eq_left (Nat.le_of_lt hkl)]
theorem dir_scan {x : Str} : ∀ (n : Nat) (A B : List Nat), B.length ≤ n → tl x = A ++ B → ∀ f, B.length < f → (scanL B = [] ∧ dirFrom x f (Txt.find3 x "#" (A.length : Int)) < 0) ∨ (0 ≤ dirFrom x f (Txt.find3 x "#" (A.length : Int)) ∧ cutS x (some (dirFrom x f (Txt.find3 x "#" (A.length : Int)))) none = mk (scanL B))
  | n, A, B, hn, h, 0, hf => absurd hf (Nat.not_lt_zero _)
  | n, A, B, hn, h, f + 1, hf => by
    rcases find3_drop h with ⟨e, hm⟩ | ⟨P, R, rfl, hP, e⟩
    · rw [e]
      exact .inl ⟨scan_none hm, by show (-1 : Int) < 0; omega⟩
    · rw [e, scan_no hP]
      have h2 : tl x = (A ++ P) ++ 35 :: R := by rw [h, List.append_assoc]
      have m := mark_eq h2
      have ng : ¬ ((A ++ P).length : Int) < 0 := by omega
      have es : scanL (35 :: R) = if mkL R = true then 35 :: R else scanL R := by
        show (if ((35 : Nat) == 35 && mkL R) = true then 35 :: R else scanL R) = _
        rw [show ((35 : Nat) == 35) = true from rfl, Bool.true_and]
      have ed : dirFrom x (f + 1) ((A ++ P).length : Int) = if mkL R = true then ((A ++ P).length : Int) else dirFrom x f (Txt.find3 x "#" (((A ++ P).length : Int) + 1)) := by
        show (if ((A ++ P).length : Int) < 0 then _ else if markAt x ((A ++ P).length : Int) = true then _ else _) = _
        rw [if_neg ng, m]
      rw [es, ed]
      cases hm : mkL R with
      | true =>
        rw [if_pos rfl, if_pos rfl]
        refine .inr ⟨by omega, ext_tl ?_⟩
        rw [cutS_from, h2, List.drop_left' rfl]
        rfl
      | false =>
        rw [if_neg Bool.false_ne_true, if_neg Bool.false_ne_true]
        have h3 : tl x = ((A ++ P) ++ [35]) ++ R := by rw [h2]; simp
        have el : (((A ++ P).length : Int) + 1) = (((A ++ P) ++ [35]).length : Int) := by
          rw [List.length_append (bs := [35])]
          rfl
        rw [el]
        cases n with
        | zero =>
          rw [List.length_append, List.length_cons] at hn
          omega
        | succ n =>
          rw [List.length_append, List.length_cons] at hn hf
          exact dir_scan n _ R (by omega) h3 f (by omega)
/-- behind its last quotation mark (A), a line has its directive -/
theorem dirS_of {A B : List Nat} (hB : ∀ c ∈ B, isQ c = false) (hA : A = [] ∨ ∃ A' q, A = A' ++ [q] ∧ isQ q = true) : dirS (mk (A ++ B)) = mk (scanL B) := by
  have h : tl (mk (A ++ B)) = A ++ B := rfl
  have hq := lastQ_at h hB hA
  unfold dirS dirPos
  rw [hq]
  rcases dir_scan B.length A B (Nat.le_refl _) h ((mk (A ++ B)).length + 1) (by rw [mk_len, List.length_append]; omega) with ⟨e, z⟩ | ⟨z, e⟩
  · rw [if_pos z, e]
    exact ext_tl (by decide +kernel)
  · rw [if_neg (by omega), e]
theorem behind_at {P R : List Nat} (h : (58 : Nat) ∉ P) : behindC (mk (P ++ 58 :: R)) = mk R := by
  have e : (":" : Str) = ⟨#[58]⟩ := ext_tl (by decide +kernel)
  have hx : tl (mk (P ++ 58 :: R)) = P ++ 58 :: R := rfl
  have hat : (tl (mk (P ++ 58 :: R)))[P.length]? = some 58 := by
    rw [hx, List.getElem?_append_right (Nat.le_refl _), Nat.sub_self]
    rfl
  unfold behindC Txt.partition
  rcases StrLaws.occ_head_from (mk (P ++ 58 :: R)) ":" 0 1 (Nat.le_refl _) with ⟨h0, n⟩ | ⟨j, r, h0, h1, hj, n⟩
  · rw [e] at n
    exact absurd ((at_one _ 58 _).mpr hat) (n P.length (Nat.zero_le _))
  · rw [h0]
    rw [e] at hj n
    have hj2 := (at_one _ 58 _).mp hj
    have ej : j = P.length := by
      rcases Nat.lt_trichotomy j P.length with z | z | z
      · rw [hx, List.getElem?_append_left z] at hj2
        exact absurd (List.mem_of_getElem? hj2) h
      · exact z
      · exact absurd ((at_one _ 58 _).mpr hat) (n P.length (Nat.zero_le _) z)
    subst ej
    refine ext_tl ?_
    have el : (":" : Str).length = 1 := by rw [e]; rfl
    show tl (Builtin.Str.strSub (mk (P ++ 58 :: R)) (P.length + (":" : Str).length) _) = R
    rw [tl_strSub, el, hx]
    have e3 : P ++ 58 :: R = (P ++ [58]) ++ R := by simp
    rw [e3, List.drop_left' (by simp)]
    refine List.take_of_length_le ?_
    rw [mk_len]
    simp
    omega

/-! ### words -/
theorem split_joinS {x : Str} {ws : List (List Nat)} (h : tl x = joinL [32] ws) (hn : ws ≠ []) (h32 : ∀ l ∈ ws, (32 : Nat) ∉ l) : Txt.split x " " = ws.map mk := by
  refine mk_of_tl ?_
  rw [sp_eq, splitOf x (y := [32]) (by simp) (by decide), h]
  exact TL.spl_join hn h32
/-- l's words, parted by spaces -/
def Wd (l : List Nat) (ws : List (List Nat)) : Prop := ∃ ps : List (List Nat), ps ≠ [] ∧ (∀ p ∈ ps, (32 : Nat) ∉ p) ∧ l = joinL [32] ps ∧ ps.filter (fun p => !p.isEmpty) = ws
theorem filt_mk : ∀ ps : List (List Nat), (ps.map mk).filter full = (ps.filter fun p => !p.isEmpty).map mk
  | [] => rfl
  | p :: r => by
    have ih := filt_mk r
    have e : full (mk p) = !p.isEmpty := rfl
    rw [List.map_cons, List.filter_cons, List.filter_cons, e, ih]
    cases p.isEmpty <;> rfl
theorem wordsS_of {l : List Nat} {ws : List (List Nat)} (h : Wd l ws) : wordsS (mk l) = ws.map mk := by
  obtain ⟨ps, hn, h32, e, rfl⟩ := h
  unfold wordsS
  rw [split_joinS (x := mk l) e hn h32, filt_mk]
theorem Wd.nil : Wd [] [] := ⟨[[]], by simp, by simp, rfl, rfl⟩
theorem Wd.one {w : List Nat} (h : (32 : Nat) ∉ w) (hn : w ≠ []) : Wd w [w] := ⟨[w], by simp, by simpa using h, rfl, by
  cases w with
  | nil => exact absurd rfl hn
  | cons c r => rfl⟩
theorem joinL_two (S : List Nat) : ∀ {a b : List (List Nat)}, a ≠ [] → b ≠ [] → joinL S (a ++ b) = joinL S a ++ (S ++ joinL S b)
  | [], _, h, _ => absurd rfl h
  | [x], b, _, hb => by
    rw [List.singleton_append, joinL_more _ _ hb]
    rfl
  | x :: y :: r, b, _, hb => by
    have ih := joinL_two S (a := y :: r) (b := b) (by simp) hb
    rw [List.cons_append, joinL_more _ _ (by simp), ih, joinL_more (ps := y :: r) _ _ (by simp), List.append_assoc, List.append_assoc]
theorem Wd.app {a b : List Nat} {u v : List (List Nat)} (h : Wd a u) (k : Wd b v) : Wd (a ++ 32 :: b) (u ++ v) := by
  obtain ⟨ps, hn, h32, rfl, rfl⟩ := h
  obtain ⟨qs, kn, k32, rfl, rfl⟩ := k
  refine ⟨ps ++ qs, by simp [hn], fun p hp => ?_, ?_, List.filter_append ..⟩
  · rcases List.mem_append.mp hp with z | z
    · exact h32 p z
    · exact k32 p z
  · rw [joinL_two _ hn kn]
    rfl
theorem Wd.lead {b : List Nat} {v : List (List Nat)} (k : Wd b v) : ∀ n, Wd (sps n ++ b) v
  | 0 => k
  | n + 1 => by
    have := Wd.app Wd.nil (k.lead n)
    exact this
theorem Wd.trail {a : List Nat} {u : List (List Nat)} (h : Wd a u) : Wd (a ++ [32]) u := by
  have := Wd.app h Wd.nil
  rw [List.append_nil] at this
  exact this
/-- a gap of spaces and a word -/
theorem Wd.word {a w : List Nat} {u : List (List Nat)} (h : Wd a u) (n : Nat) (hw : (32 : Nat) ∉ w) (hn : w ≠ []) : Wd (a ++ (sps (n + 1) ++ w)) (u ++ [w]) := by
  have := Wd.app h ((Wd.one hw hn).lead n)
  exact this
/-- spaces for commas -/
def cm (l : List Nat) : List Nat := l.map fun c => if c == 44 then 32 else c
theorem cm_app (a b : List Nat) : cm (a ++ b) = cm a ++ cm b := List.map_append
theorem cm_no {l : List Nat} (h : (44 : Nat) ∉ l) : cm l = l := by
  unfold cm
  refine (List.map_congr_left fun c hc => ?_).trans (List.map_id _)
  have : (c == 44) = false := beq_eq_false_iff_ne.mpr fun e => h (e ▸ hc)
  rw [this]
  rfl
theorem dwS_of {P R : List Nat} {x : Str} {ws : List (List Nat)} (h : dirS x = mk (P ++ 58 :: R)) (hP : (58 : Nat) ∉ P) (hw : Wd (cm R) ws) : dwS x = ws.map mk := by
  have e44 : ("," : Str) = ⟨[44].toArray⟩ := ext_tl (by decide +kernel)
  unfold dwS
  rw [h, behind_at hP, e44, sp_eq, ← wordsS_of hw]
  congr 1
  refine ext_tl ?_
  rw [replace_map]
  rfl
theorem rsuf_app (U : List Nat) {D : List Nat} (hD : D ≠ []) : Txt.removesuffix (mk (U ++ D)) (mk D) = mk U := by
  have hd : D.length ≠ 0 := fun z => hD (List.length_eq_zero_iff.mp z)
  have hl : (mk (U ++ D)).length = U.length + D.length := by rw [mk_len, List.length_append]
  have l1 : (mk D).length = D.length := mk_len D
  have k : Builtin.Str.subAt (mk (U ++ D)) (mk D) U.length = true := by
    rw [StrLaws.subAt_eq]
    show (((U ++ D).drop U.length).take (mk D).length == D) = true
    rw [List.drop_left' rfl, l1, List.take_of_length_le (Nat.le_refl _)]
    exact beq_self_eq_true D
  refine ext_tl ?_
  unfold Txt.removesuffix
  rw [hl, l1, Nat.add_sub_cancel, k, Bool.and_true, decide_eq_true (by omega), if_pos rfl]
  unfold Txt.affix
  dsimp only
  rw [hl, Nat.sub_zero, show (U.length == U.length + D.length) = false by rw [beq_eq_false_iff_ne]; omega, if_neg Bool.false_ne_true]
  rw [tl_strSub, List.drop_zero, Nat.sub_zero]
  show (U ++ D).take U.length = U
  rw [List.take_left]
/-! ### lines of the law -/
def WAYS : List (List Nat × List Nat) := [([], tl "# doctest: "), ([], tl "#doctest:"), ([], tl "#  doctest:  "), (tl "# a ", tl "# doctest: "), ([35], tl "# doctest:"), (tl "# # ", tl "#doctest: "), (tl "# doctest ", tl "# doctest:")]
def SIGNS : List (List Nat) := [[43], [45]]
def FL : List (List Nat) := [tl "DONT_ACCEPT_TRUE_FOR_1", tl "DONT_ACCEPT_BLANKLINE", tl "NORMALIZE_WHITESPACE", tl "ELLIPSIS", tl "SKIP", tl "FAIL_FAST", tl "IGNORE_EXCEPTION_DETAIL", tl "REPORT_ONLY_FIRST_FAILURE"]
def fine (c : Nat) : Bool := decide (32 ≤ c) && (decide (c < 127) && !isQ c)
def wordF (w : List Nat) : Bool := (w.all fun c => fine c && (c != 32 && c != 44)) && (!w.isEmpty && decide (w.length ≤ 26))
theorem words_ok : (SIGNS.all fun s => FL.all fun f => wordF (s ++ f)) = true := by decide +kernel
theorem scan_way : ∀ w ∈ WAYS, ∀ b, scanL (w.1 ++ (w.2 ++ b)) = w.2 ++ b := by
  intro w hw b
  unfold WAYS at hw
  simp only [List.mem_cons, List.not_mem_nil, or_false] at hw
  rcases hw with rfl | rfl | rfl | rfl | rfl | rfl | rfl <;> rfl
theorem way_col : ∀ w ∈ WAYS, ∃ P n, w.2 = P ++ 58 :: sps n ∧ (58 : Nat) ∉ P := by
  intro w hw
  unfold WAYS at hw
  simp only [List.mem_cons, List.not_mem_nil, or_false] at hw
  rcases hw with rfl | rfl | rfl | rfl | rfl | rfl | rfl
  · exact ⟨tl "# doctest", 1, by decide +kernel, by decide +kernel⟩
  · exact ⟨tl "#doctest", 0, by decide +kernel, by decide +kernel⟩
  · exact ⟨tl "#  doctest", 2, by decide +kernel, by decide +kernel⟩
  · exact ⟨tl "# doctest", 1, by decide +kernel, by decide +kernel⟩
  · exact ⟨tl "# doctest", 0, by decide +kernel, by decide +kernel⟩
  · exact ⟨tl "#doctest", 1, by decide +kernel, by decide +kernel⟩
  · exact ⟨tl "# doctest", 0, by decide +kernel, by decide +kernel⟩
theorem way_ok : (WAYS.all fun w => w.1.all fine && (w.2.all fine && (decide (w.1.length ≤ 10 ∧ w.2.length ≤ 13 ∧ w.2 ≠ [])))) = true := by decide +kernel
/-- what a directive has behind its colon's blanks -/
structure Dr (b : List Nat) (ws : List (List Nat)) : Prop where
  wd : Wd (cm b) ws
  fn : b.all fine = true
theorem fine_okc {l : List Nat} (h : l.all fine = true) : okc l = true := by
  unfold okc
  rw [List.all_eq_true] at h ⊢
  intro c hc
  have := h c hc
  unfold fine at this
  rw [Bool.and_eq_true, Bool.and_eq_true] at this
  rw [this.1, this.2.1]
  rfl
theorem okc_app {a b : List Nat} (h : okc a = true) (k : okc b = true) : okc (a ++ b) = true := by
  unfold okc at *
  rw [List.all_append, h, k]
  rfl

/-! ### examples_of -/
section
variable {P : Program} {w : World} {K : PySem.W.Frag} {mg : Str → Option Value} {base : Heap}
/-- what of the pieces is an example -/
def exsOf (C : Addr) (R : List (List Nat)) : List V → List (Str ⊕ (Nat × Nat × Nat)) → List V
  | v :: vs, .inr c :: ps => if (srcL R c.1 c.2.1 (ldAt R c.1 + 4)).all remL = true then exsOf C R vs ps else v :: exsOf C R vs ps
  | _ :: vs, .inl _ :: ps => exsOf C R vs ps
  | _, _ => []
theorem PcsAt.at_ {C D : Addr} {R : List (List Nat)} {H : Hp} : ∀ {us : List V} {ps : List (Str ⊕ (Nat × Nat × Nat))} {i : Nat} {v : V}, PcsAt C D R H us ps → us[i]? = some v → ∃ p, ps[i]? = some p ∧ (match p with | .inl x => v = .str x | .inr c => PieceIs C D R H c v) ∧ exsOf C R (us.take (i + 1)) (ps.take (i + 1)) = exsOf C R (us.take i) (ps.take i) ++ exsOf C R [v] [p]
  | v :: vs, .inl x :: ps, 0, _, h, e => by
    cases e
    exact ⟨_, rfl, h.1, rfl⟩
  | v :: vs, .inr c :: ps, 0, _, h, e => by
    cases e
    exact ⟨_, rfl, h.1, rfl⟩
  | v :: vs, .inl x :: ps, i + 1, u, h, e => by
    obtain ⟨p, h1, h2, h3⟩ := PcsAt.at_ (i := i) h.2 e
    exact ⟨p, h1, h2, h3⟩
  | v :: vs, .inr c :: ps, i + 1, u, h, e => by
    obtain ⟨p, h1, h2, h3⟩ := PcsAt.at_ (i := i) h.2 e
    refine ⟨p, h1, h2, ?_⟩
    show (if _ then exsOf C R (vs.take (i + 1)) (ps.take (i + 1)) else v :: exsOf C R (vs.take (i + 1)) (ps.take (i + 1))) = (if _ then exsOf C R (vs.take i) (ps.take i) else v :: exsOf C R (vs.take i) (ps.take i)) ++ _
    rw [h3]
    split <;> rfl
  | [], [], _, _, _, e => by cases e
  | [], .inl _ :: _, _, _, h, _ => h.elim
  | [], .inr _ :: _, _, _, h, _ => h.elim
  | _ :: _, [], _, _, h, _ => h.elim
theorem exsOf_le {C : Addr} {R : List (List Nat)} : ∀ (us : List V) (ps : List (Str ⊕ (Nat × Nat × Nat))), (exsOf C R us ps).length ≤ us.length
  | v :: vs, .inr c :: ps => by
    have := exsOf_le (C := C) (R := R) vs ps
    unfold exsOf
    split
    · rw [List.length_cons]; omega
    · rw [List.length_cons, List.length_cons]; omega
  | _ :: vs, .inl _ :: ps => by
    have := exsOf_le (C := C) (R := R) vs ps
    unfold exsOf
    rw [List.length_cons]; omega
  | [], _ => Nat.le_refl _
  | _ :: _, [] => Nat.zero_le _
def sp_examples_of (C D B : Addr) : Sp := fun vs H Q E => ∃ (x : Str) (ls init : List (List Nat)) (last : List Nat), vs = [.str x] ∧ Whole x ls init last ∧ (piecesL (keptOf init last) 0 (cutsL (rowsOf init last) 0)).length ≤ 1000 ∧
  (badAll (rowsOf init last) (cutsL (rowsOf init last) 0) = none → ∀ (H' : Hp) (L : Addr) (us : List V), Same H H' → H L = none → PcsAt C D (rowsOf init last) H' us (piecesL (keptOf init last) 0 (cutsL (rowsOf init last) 0)) → H' L = some (.lst (exsOf C (rowsOf init last) us (piecesL (keptOf init last) 0 (cutsL (rowsOf init last) 0)))) → Q (.ref L) H') ∧
  ∀ n r f, badAll (rowsOf init last) (cutsL (rowsOf init last) 0) = some (n, r, f) → ∀ (H' : Hp) (d : Addr), Same H H' → H d = none → H' d = some (.xd [("found", .str f), ("reason", .str r), ("line", .int n)]) → E (.ref B) (some d) H'
theorem ok_examples_of {f : Addr} {fd : FuncData} {dvs : List V} (F : Fn K "examples_of" s_examples_of dvs f fd) {C_Example : Addr} (T_Example : Txt_Example K mg C_Example) {C_Comment : Addr} (T_Comment : Txt_Comment K mg C_Comment) {C_BadText : Addr} (T_BadText : Err_BadText K mg C_BadText) (O_parsed : OwnX P w K mg base "parsed" 7 ["text"] [] (sp_parsed C_Example C_Comment C_BadText)) (m_isinstance : mg "isinstance" = none) (z_EE : PySem.W.subIn K (.ref C_Example) (.ref C_Example) = some true) (z_sE : PySem.W.subIn K (.type "str") (.ref C_Example) = some false) (z_iE : PySem.W.isClsIn K C_Example = true) (z_tE : PySem.W.typeIn K (.ref C_Example) = some (.type "type")) (z_CE : PySem.W.subIn K (.ref C_Comment) (.ref C_Example) = some false) : FnOk P w K mg base (L2.CX P w) 8 f fd ["text"] (sp_examples_of C_Example C_Comment C_BadText) := by
  refine Fn.okX F sc_examples_of (fun vs H Q E h => ?_) (fun cdv A outer s H vs Q E hr h => ?_)
  · obtain ⟨_, _, _, _, rfl, _⟩ := h
    rfl
  · obtain ⟨x, ls, init, last, rfl, wh, hd, k, kE⟩ := h
    refine ⟨_, (pss_one (ps_ret (pe_lc (own := [("piece", 1)]) (g := gName 1) (by rfl) sc_examples_of.nd (pi_list (pe_ownX O_parsed (hr.mono (by decide)) (takes_of rfl rfl rfl rfl) (fun _ _ _ _ h => h) (by rfl) (pa_cons (pv 0) pa_nil))) (blkOk_by (own := [("piece", 1)]) (N := ["text", "piece"]) (sc := defScope s_examples_of) (by decide +kernel)) (fun _ _ _ _ _ => (pg_name (i := 1) sc_examples_of.nd rfl (.inl rfl))) (fun _ _ _ _ _ => (pts_one (pt_val (pe_callB (call_isiK (K' := K) rfl) (by rfl) m_isinstance (by decide +kernel) (pa_cons (pv 1) (pa_cons (pe_glob (v := .ref C_Example) rfl T_Example.mgC rfl) pa_nil)))))) (fun _ _ _ _ _ => (pv 1))))), ?_⟩
    refine ⟨.str x, rfl, x, ls, init, last, rfl, wh, fun hbad H1 p us s1 np ep hpc => ⟨p, rfl, ⟨_, SqL.of ep⟩, fun L nL => ?_⟩, kE⟩
    have k := k hbad
    have hlen := hpc.len
    generalize piecesL (keptOf init last) 0 (cutsL (rowsOf init last) 0) = pcs at hd k hpc hlen
    refine lc_list (K := K) (a := p) (xs := us) (fun i H2 => H2 L = some (.lst (exsOf C_Example (rowsOf init last) (us.take i) (pcs.take i))) ∧ Same H1 H2) ⟨upd_same, same_new nL⟩ (fun i H2 _ h => SqL.of (h.2 _ _ ep)) ?_ ?_
    · rintro i v H2 hv ⟨eL, s2⟩
      have hi : i < us.length := (List.getElem?_eq_some_iff.mp hv).1
      obtain ⟨pc, hpi, hfit, hex⟩ := hpc.at_ hv
      have hle := exsOf_le (C := C_Example) (R := rowsOf init last) (us.take i) (pcs.take i)
      rw [List.length_take] at hle
      rw [hex]
      refine ⟨rfl, ?_⟩
      rcases pc with z | c
      · have hfit : v = .str z := hfit
        subst hfit
        refine ⟨.str z, rfl, .str z, _, _, _, false, rfl, .own C_Example, .base (.str z), kit_no z_iE z_tE z_sE nofun, false, rfl, iteF ⟨?_, s2⟩⟩
        show H2 L = some (.lst (_ ++ []))
        rw [List.append_nil]
        exact eL
      · have hfit : PieceIs C_Example C_Comment (rowsOf init last) H1 c v := hfit
        obtain ⟨q, dx, fs, rfl, hq⟩ := hfit
        have e1 : exsOf C_Example (rowsOf init last) [V.ref q] [.inr c] = if (srcL (rowsOf init last) c.1 c.2.1 (ldAt (rowsOf init last) c.1 + 4)).all remL = true then [] else [V.ref q] := rfl
        rw [e1]
        cases hr : (srcL (rowsOf init last) c.1 c.2.1 (ldAt (rowsOf init last) c.1 + 4)).all remL with
        | true =>
          rw [hr, if_pos rfl] at hq
          have nCE : Value.ref C_Comment ≠ .ref C_Example := fun z => by
            rw [z, z_EE] at z_CE
            cases z_CE
          refine ⟨.ref q, rfl, .ref q, _, _, _, false, rfl, .own C_Example, .base (.ins (s2 _ _ hq.1) T_Comment.cl T_Comment.ha T_Comment.hn T_Comment.ht T_Comment.hm), kit_no z_iE z_tE z_CE nCE, false, rfl, iteF ⟨?_, s2⟩⟩
          rw [if_pos rfl, List.append_nil]
          exact eL
        | false =>
          rw [hr, if_neg Bool.false_ne_true] at hq
          refine ⟨.ref q, rfl, .ref q, _, _, _, true, rfl, .own C_Example, .base (.ins (s2 _ _ hq.1) T_Example.cl T_Example.ha T_Example.hn T_Example.ht T_Example.hm), T_Example.ko, true, rfl, iteT ⟨.ref q, rfl, _, eL, Nat.lt_of_le_of_lt (show _ ≤ 1000 by omega) (by decide), ?_, fun b o e => ?_⟩⟩
          · rw [upd_same, if_neg Bool.false_ne_true]
          · rw [upd_ne (ne_of_none e nL)]
            exact s2 b o e
    · rintro H2 ⟨eL, s2⟩
      rw [List.take_length, hlen, List.take_length] at eL
      exact k H2 L us (s1.trans s2) (s1.free nL) (hpc.nl (NL.same s2)) eL
end

/-! ### scripts -/
theorem nil_or_snoc {α : Type} (l : List α) : l = [] ∨ ∃ l' a, l = l' ++ [a] := by
  rcases List.eq_nil_or_concat l with e | ⟨l', a, e⟩
  · exact .inl e
  · exact .inr ⟨l', a, by rw [e, List.concat_eq_append]⟩
theorem sum_le_of {b : Nat} : ∀ {ls : List (List Nat)}, (∀ l ∈ ls, l.length ≤ b) → (ls.map (·.length)).sum ≤ ls.length * b
  | [], _ => Nat.zero_le _
  | a :: r, h => by
    have h1 := h a (List.mem_cons_self ..)
    have h2 := sum_le_of fun l hl => h l (List.mem_cons_of_mem _ hl)
    rw [List.map_cons, List.sum_cons, List.length_cons, Nat.succ_mul]
    omega
theorem kit_tyno {K : PySem.W.Frag} {C : Addr} {T : String} (hm : PySem.W.kitMeta T = true) (sub : PySem.W.subIn K (.ref C) (.type T) = some false) : PySem.W.kitOne K (.ref C) (.type T) = some false := by
  have h2 : (Value.ref C == Value.type T) = false := beq_eq_false_iff_ne.mpr nofun
  unfold PySem.W.kitOne PySem.W.kitCls
  rw [h2, if_neg Bool.false_ne_true]
  dsimp only
  rw [if_pos hm, sub]
/-- lines of a text: those that end, and the last one -/
def lin : List Nat → List (List Nat) × List Nat
  | [] => ([], [])
  | c :: r => if c = 10 then ([] :: (lin r).1, (lin r).2) else match (lin r).1 with
    | [] => ([], c :: (lin r).2)
    | a :: b => ((c :: a) :: b, (lin r).2)
theorem lin_eq : ∀ l : List Nat, l = joinL [10] ((lin l).1 ++ [(lin l).2]) ∧ Rows10 ((lin l).1 ++ [(lin l).2])
  | [] => ⟨rfl, fun l h => by
    rw [List.mem_singleton.mp (show l ∈ [[]] from h)]
    exact nofun⟩
  | c :: r => by
    obtain ⟨i1, i2⟩ := lin_eq r
    unfold lin
    by_cases h : c = 10
    · rw [if_pos h]
      refine ⟨?_, fun l hl => ?_⟩
      · rw [List.cons_append, joinL_more _ _ (by simp), ← i1, h]
        rfl
      · rcases List.mem_cons.mp hl with rfl | hl
        · exact nofun
        · exact i2 l hl
    · rw [if_neg h]
      cases e : (lin r).1 with
      | nil =>
        rw [e] at i1 i2
        refine ⟨congrArg (c :: ·) i1, fun l hl => ?_⟩
        rw [List.mem_singleton.mp (show l ∈ [c :: (lin r).2] from hl)]
        intro z
        rcases List.mem_cons.mp z with z | z
        · exact h z.symm
        · exact i2 _ (List.mem_singleton.mpr rfl) z
      | cons a b =>
        rw [e] at i1 i2
        refine ⟨?_, fun l hl => ?_⟩
        · show c :: r = joinL [10] ((c :: a) :: (b ++ [(lin r).2]))
          rw [joinL_more _ _ (by simp)]
          have : r = joinL [10] (a :: (b ++ [(lin r).2])) := i1
          rw [joinL_more _ _ (by simp)] at this
          rw [List.cons_append, ← this]
        · rcases List.mem_cons.mp (show l ∈ (c :: a) :: (b ++ [(lin r).2]) from hl) with rfl | hl
          · intro z
            rcases List.mem_cons.mp z with z | z
            · exact h z.symm
            · exact i2 a (List.mem_cons_self ..) z
          · exact i2 l (List.mem_cons_of_mem _ hl)
def linesT (x : Str) : List (List Nat) := rowsOf (lin (tl x)).1 (lin (tl x)).2
def remS (x : Str) : Str := if ((x.length : Int) != 0) = true then "# " ++ x else "#"
/-- a piece as a script takes it: a text; nothing; a source and expected lines -/
abbrev PcS := Str ⊕ Option (List (List Nat) × List (List Nat))
def psT : PcS → List Str
  | .inl x => (linesT x).map fun l => remS (Txt.rstripChars (mk l) " \t")
  | .inr none => []
  | .inr (some (sl, ws)) => mk (joinL [10] sl) :: (if ws = [] then [] else "# Expected:" :: ws.map fun l => "## " ++ mk l)
def PsOk (C D : Addr) (H : Hp) (v : V) : PcS → Prop
  | .inl x => v = .str x ∧ x.length ≤ 9000
  | .inr none => ∃ (q dx : Addr) (fs : List (Str × V)), v = .ref q ∧ H q = some (.ins D dx fs)
  | .inr (some (sl, ws)) => ∃ (q dx : Addr) (fs : List (Str × V)), v = .ref q ∧ H q = some (.ins C dx fs) ∧ fs.lookup ("source" : Str) = some (.str (rowsT sl)) ∧ fs.lookup ("want" : Str) = some (.str (rowsT ws)) ∧ sl ≠ [] ∧ Rows10 ws ∧ (∀ l ∈ sl, l.length ≤ 200) ∧ (∀ l ∈ ws, l.length ≤ 200) ∧ sl.length ≤ 40 ∧ ws.length ≤ 40
theorem PsOk.same {C D : Addr} {H H' : Hp} (s : Same H H') {v : V} : ∀ {p : PcS}, PsOk C D H v p → PsOk C D H' v p
  | .inl _, h => h
  | .inr none, ⟨q, dx, fs, h1, h2⟩ => ⟨q, dx, fs, h1, s _ _ h2⟩
  | .inr (some (_, _)), ⟨q, dx, fs, h1, h2, h3⟩ => ⟨q, dx, fs, h1, s _ _ h2, h3⟩
theorem rstrip_len (l : List Nat) (y : Str) : (Txt.rstripChars (mk l) y).length ≤ l.length := by
  have b : (Txt.rstripChars (mk l) y).length ≤ (mk l).length := len_stripBy _ _ _ _
  rw [mk_len] at b
  exact b
theorem str_app_len (a b : Str) : (a ++ b).length = a.length + b.length := by rw [len_tl, tl_append, List.length_append, ← len_tl, ← len_tl]
theorem remS_len (x : Str) : (remS x).length ≤ x.length + 2 := by
  unfold remS
  split
  · rw [str_app_len]
    have : ("# " : Str).length = 2 := rfl
    omega
  · have : ("#" : Str).length = 1 := rfl
    omega
theorem ten_snoc {sl : List (List Nat)} (h : sl ≠ []) : joinL [] (sl.map (· ++ [10])) = joinL [10] sl ++ [10] := by
  rw [← join_ten, ten_last _ h]
theorem rsuf_ten (x : List Nat) : Txt.removesuffix (mk (x ++ [10])) "\n" = mk x := by
  have := noNl_fed x
  exact ext_tl this
/-- what is taken off at the end, at the beginning -/
def rdw (p : Str → Bool) : List Str → List Str
  | [] => []
  | a :: r => if ((rdw p r).isEmpty && p a) = true then [] else a :: rdw p r
theorem rdw_drop (p : Str → Bool) : ∀ l : List Str, (rdw p l).dropWhile p = rdw p (l.dropWhile p)
  | [] => rfl
  | a :: r => by
    have ih := rdw_drop p r
    rw [List.dropWhile_cons]
    have e0 : rdw p (a :: r) = if ((rdw p r).isEmpty && p a) = true then [] else a :: rdw p r := rfl
    rw [e0]
    cases ha : p a with
    | true =>
      rw [if_pos rfl, Bool.and_true]
      cases he : (rdw p r).isEmpty with
      | true =>
        rw [if_pos rfl]
        rw [List.isEmpty_iff.mp he] at ih
        exact ih
      | false =>
        rw [if_neg Bool.false_ne_true, List.dropWhile_cons, ha, if_pos rfl]
        exact ih
    | false =>
      rw [if_neg Bool.false_ne_true, e0, ha, Bool.and_false, if_neg Bool.false_ne_true, List.dropWhile_cons, ha, if_neg Bool.false_ne_true]
theorem rdw_snoc (p : Str → Bool) (x : Str) : ∀ l : List Str, rdw p (l ++ [x]) = if p x = true then rdw p l else l ++ [x]
  | [] => by
    rw [List.nil_append, rdw, rdw]
    cases p x <;> rfl
  | a :: r => by
    have ih := rdw_snoc p x r
    rw [List.cons_append, rdw, ih]
    cases hx : p x with
    | true => rw [if_pos rfl, if_pos rfl, rdw]
    | false =>
      rw [if_neg Bool.false_ne_true, if_neg Bool.false_ne_true]
      have : (r ++ [x]).isEmpty = false := by cases r <;> rfl
      rw [this, Bool.false_and, if_neg Bool.false_ne_true]
def isN (x : Str) : Bool := decide (V.str x = V.str "#")
/-- what a script is -/
def scriptT (L : List Str) : Str := Txt.join "\n" ((rdw isN L).dropWhile isN) ++ "\n"
section
variable {P : Program} {w : World} {K : PySem.W.Frag} {mg : Str → Option Value} {base : Heap}
def sp_remark_of : Sp := fun vs H Q _ => ∃ x : Str, vs = [.str x] ∧ x.length ≤ 100000 ∧ Q (.str (remS x)) H
theorem ok_remark_of {f : Addr} {fd : FuncData} {dvs : List V} (F : Fn K "remark_of" s_remark_of dvs f fd) {t_NOTHING : Tok} (c_NOTHING : mg "NOTHING" = some (.str "#" t_NOTHING)) : FnOk P w K mg base CX0 1 f fd ["line"] (sp_remark_of) := by
  refine Fn.okN F sc_remark_of (fun vs H Q E h => ?_) (fun cdv A outer s H vs Q E hr h => ?_)
  · obtain ⟨_, rfl, _⟩ := h
    rfl
  · obtain ⟨x, rfl, hx, k⟩ := h
    refine ⟨_, (pss_one (ps_ret (pe_ifExp (pt_tr (K' := K) (pv 0)) (pe_op op_add_str pe_str (pv 0)) (pe_glob (v := .str "#") rfl c_NOTHING ⟨_, rfl⟩)))), ?_⟩
    have l2 : ("# " : Str).length = 2 := rfl
    refine ⟨.str x, rfl, _, ⟨line_of (by omega), rfl⟩, ?_⟩
    unfold remS at k
    cases h : ((x.length : Int) != 0) with
    | true =>
      rw [h, if_pos rfl] at k
      exact iteT ⟨.str x, rfl, _, _, rfl, rfl, by rw [l2]; exact line_of (by omega), k⟩
    | false =>
      rw [h, if_neg Bool.false_ne_true] at k
      exact iteF k
def sp_parts_of (C D : Addr) : Sp := fun vs H Q _ => ∃ (v : V) (p : PcS), vs = [v] ∧ PsOk C D H v p ∧ ∀ (H' : Hp) (L : Addr), Same H H' → H L = none → H' L = some (.lst ((psT p).map V.str)) → Q (.ref L) H'
theorem ok_parts_of {f : Addr} {fd : FuncData} {dvs : List V} (F : Fn K "parts_of" s_parts_of dvs f fd) {C_Example : Addr} (T_Example : Txt_Example K mg C_Example) {C_Comment : Addr} (T_Comment : Txt_Comment K mg C_Comment) (O_lines_of : Own P w K mg base "lines_of" 2 ["text"] [] (sp_lines_of)) (O_remark_of : Own P w K mg base "remark_of" 1 ["line"] [] (sp_remark_of)) (m_isinstance : mg "isinstance" = none) (m_str : mg "str" = none) {t_BLANKS : Tok} (c_BLANKS : mg "BLANKS" = some (.str " \t" t_BLANKS)) (z_EC : PySem.W.subIn K (.ref C_Example) (.ref C_Comment) = some false) (z_EE : PySem.W.subIn K (.ref C_Example) (.ref C_Example) = some true) (z_iC : PySem.W.isClsIn K C_Comment = true) (z_tC : PySem.W.typeIn K (.ref C_Comment) = some (.type "type")) (z_Es : PySem.W.subIn K (.ref C_Example) (.type "str") = some false) (z_Cs : PySem.W.subIn K (.ref C_Comment) (.type "str") = some false) : FnOk P w K mg base CX0 3 f fd ["piece"] (sp_parts_of C_Example C_Comment) := by
  refine Fn.okN F sc_parts_of (fun vs H Q E h => ?_) (fun cdv A outer s H vs Q E hr h => ?_)
  · obtain ⟨_, _, rfl, _⟩ := h
    rfl
  · obtain ⟨v, p, rfl, hp, k⟩ := h
    refine ⟨_, (pss_cons (ps_if (pt_val (pe_callB call_isi (by rfl) m_isinstance (by decide +kernel) (pa_cons (pv 0) (pa_cons (pe_bltn (v := .ty "str") (by rfl) m_str (by decide +kernel) rfl) pa_nil))))
          (pss_one (ps_ret (pe_lc (own := [("line", 2)]) (g := gName 2) (tt := tYes) (by rfl) sc_parts_of.nd (pi_list (pe_own O_lines_of (hr.mono (by decide)) (by rfl) (pa_cons (pv 0) pa_nil))) (blkOk_by (own := [("line", 2)]) (N := ["piece", "source", "line"]) (sc := defScope s_parts_of) (by decide +kernel)) (fun _ _ _ _ _ => (pg_name (i := 2) sc_parts_of.nd rfl (.inl rfl))) (fun _ _ _ _ _ => pts_nil) (fun _ _ _ _ _ => (pe_own O_remark_of (hr.mono (by decide)) (by rfl) (pa_cons (pe_m1 PySem.F.slot_str_rstrip PySem.F.type_str_rstrip mt_rstripChars (pv 2) (pe_glob (v := .str " \t") rfl c_BLANKS ⟨_, rfl⟩)) pa_nil))))))
          pss_nil)
      (pss_cons (ps_if (pt_val (pe_callB (call_isiK (K' := K) rfl) (by rfl) m_isinstance (by decide +kernel) (pa_cons (pv 0) (pa_cons (pe_glob (v := .ref C_Comment) rfl T_Comment.mgC rfl) pa_nil))))
          (pss_one (ps_ret (pe_lst pa_nil)))
          pss_nil)
      (pss_cons (ps_set (i := 1) sc_parts_of.nd rfl (.inl rfl) (pe_m1 PySem.F.slot_str_removesuffix PySem.F.type_str_removesuffix mt_removesuffix (pe_fldK (K' := K) rfl (pv 0) rfl) pe_str))
      (pss_cons (ps_if (pt_not (pt_tr (K' := K) (pe_fldK (K' := K) rfl (pv 0) rfl)))
          (pss_one (ps_ret (pe_lst (pa_cons (pv 1) pa_nil))))
          pss_nil)
      (pss_one (ps_ret (pe_op op_cat (pe_lst (pa_cons (pv 1) (pa_cons pe_str pa_nil))) (pe_lc (own := [("line", 2)]) (g := gName 2) (tt := tYes) (by rfl) sc_parts_of.nd (pi_list (pe_own O_lines_of (hr.mono (by decide)) (by rfl) (pa_cons (pe_fldK (K' := K) rfl (pv 0) rfl) pa_nil))) (blkOk_by (own := [("line", 2)]) (N := ["piece", "source", "line"]) (sc := defScope s_parts_of) (by decide +kernel)) (fun _ _ _ _ _ => (pg_name (i := 2) sc_parts_of.nd rfl (.inl rfl))) (fun _ _ _ _ _ => pts_nil) (fun _ _ _ _ _ => (pe_op op_add_str pe_str (pv 2))))))))))), ?_⟩
    rcases p with x | _ | ⟨sl, ws⟩
    · obtain ⟨rfl, lx⟩ := hp
      obtain ⟨ex, h10⟩ := lin_eq (tl x)
      refine ⟨.str x, rfl, .str x, _, _, _, true, rfl, .ty "str", .base (.str x), kit_ty (by decide +kernel), true, rfl, iteT ⟨.str x, rfl, x, (lin (tl x)).1, (lin (tl x)).2, rfl, ex, h10, by omega, fun H1 p s1 np ep => ⟨p, rfl, ⟨_, SqL.of ep⟩, fun L nL => ?_⟩⟩⟩
      have rb := rows_bound ex (by omega : x.length ≤ 10000)
      refine lc_list (K := K) (a := p) (xs := ((linesT x).map mk).map V.str) (fun i H2 => H2 L = some (.lst ((((linesT x).take i).map fun l => remS (Txt.rstripChars (mk l) " \t")).map V.str)) ∧ Same H1 H2) ⟨upd_same, same_new nL⟩ (fun i H2 _ h => SqL.of (h.2 _ _ ep)) ?_ ?_
      · rintro i v H2 hv ⟨eL, s2⟩
        obtain ⟨z, rfl, hz⟩ := str_at hv
        rw [List.getElem?_map] at hz
        obtain ⟨l, hl, rfl⟩ := Option.map_eq_some_iff.mp hz
        have hm := List.mem_of_getElem? hl
        have ll := rb.1 l hm
        have rl := rstrip_len l " \t"
        have hi : i < (linesT x).length := (List.getElem?_eq_some_iff.mp hl).1
        have hn : (linesT x).length ≤ 10002 := rb.2.1
        refine ⟨rfl, ?_⟩
        unfold tYes
        show ite (true = true) _ _
        rw [if_pos rfl]
        refine ⟨.str (mk l), rfl, ⟨_, rfl⟩, mk l, " \t", rfl, rfl, by rw [mk_len]; exact line_of (by omega), _, rfl, by omega, _, eL, ?_, ?_, fun b o e => ?_⟩
        · rw [List.length_map, List.length_map, List.length_take]
          exact Nat.lt_of_le_of_lt (show min i _ ≤ 10002 by omega) (by decide)
        · rw [upd_same, List.take_add_one, hl, List.map_append, List.map_append]
          rfl
        · rw [upd_ne (ne_of_none e nL)]
          exact s2 b o e
      · rintro H2 ⟨eL, s2⟩
        rw [List.length_map, List.length_map, List.take_length] at eL
        exact k _ L (s1.trans s2) (s1.free nL) eL
    · obtain ⟨q, dx, fs, rfl, eq⟩ := hp
      refine ⟨.ref q, rfl, .ref q, _, _, _, false, rfl, .ty "str", .base (.ins eq T_Comment.cl T_Comment.ha T_Comment.hn T_Comment.ht T_Comment.hm), kit_tyno (by decide +kernel) z_Cs, false, rfl, iteF ?_⟩
      refine ⟨.ref q, rfl, .ref q, _, _, _, true, rfl, .own C_Comment, .base (.ins eq T_Comment.cl T_Comment.ha T_Comment.hn T_Comment.ht T_Comment.hm), T_Comment.ko, true, rfl, iteT ⟨by show 0 ≤ sizeLine; decide, fun L nL => k _ L (same_new nL) nL upd_same⟩⟩
    · obtain ⟨q, dx, fs, rfl, eq, hs, hw, hne, w10, ls, lw, ns, nw⟩ := hp
      have nEC : Value.ref C_Example ≠ .ref C_Comment := fun z => by
        rw [← z, z_EE] at z_EC
        cases z_EC
      refine ⟨.ref q, rfl, .ref q, _, _, _, false, rfl, .ty "str", .base (.ins eq T_Example.cl T_Example.ha T_Example.hn T_Example.ht T_Example.hm), kit_tyno (by decide +kernel) z_Es, false, rfl, iteF ?_⟩
      refine ⟨.ref q, rfl, .ref q, _, _, _, false, rfl, .own C_Comment, .base (.ins eq T_Example.cl T_Example.ha T_Example.hn T_Example.ht T_Example.hm), kit_no z_iC z_tC z_EC nEC, false, rfl, iteF ?_⟩
      have zz : ∀ x : List (List Nat), (∀ l ∈ x, l.length ≤ 200) → x.length ≤ 40 → (rowsT x).length ≤ 9000 := fun x h1 h2 => by
        have := sum_le_of h1
        show (mk _).length ≤ _
        rw [mk_len, flat_len]
        omega
      have es : Txt.removesuffix (rowsT sl) "\n" = mk (joinL [10] sl) := by
        unfold rowsT
        rw [ten_snoc hne]
        exact rsuf_ten _
      have z1 := zz sl ls ns
      have z2 := zz ws lw nw
      refine ⟨.ref q, rfl, q, C_Example, dx, fs, _, rfl, eq, T_Example.cl, T_Example.n_source, hs, ⟨_, rfl⟩, rowsT sl, "\n", rfl, rfl, line_of (by omega), ?_⟩
      rw [es]
      refine ⟨.ref q, rfl, q, C_Example, dx, fs, _, rfl, eq, T_Example.cl, T_Example.n_want, hw, _, ⟨line_of (by omega), rfl⟩, ?_⟩
      cases ws with
      | nil =>
        have e0 : (rowsT []).length = 0 := rfl
        rw [show (!(((rowsT []).length : Int) != 0)) = true from rfl]
        exact iteT ⟨.str _, rfl, by show 1 ≤ sizeLine; decide, fun L nL => k _ L (same_new nL) nL upd_same⟩
      | cons w0 wr =>
        have e0 : (!(((rowsT (w0 :: wr)).length : Int) != 0)) = false := by
          have h : (rowsT (w0 :: wr)).length ≠ 0 := by
            show (mk _).length ≠ 0
            rw [mk_len, flat_len, List.length_cons]
            omega
          simpa using h
        rw [e0]
        have kp : psT (.inr (some (sl, w0 :: wr))) = [mk (joinL [10] sl), "# Expected:"] ++ (w0 :: wr).map fun l => "## " ++ mk l := rfl
        rw [kp] at k
        generalize w0 :: wr = ws at hw w10 lw nw z2 k ⊢
        have ro : rowsOf ws [] = ws := List.append_nil _
        refine iteF ⟨.str _, rfl, by show 2 ≤ sizeLine; decide, fun A nA => ?_⟩
        have sA := same_new (o := .lst [.str (mk (joinL [10] sl)), .str "# Expected:"]) nA
        have eA : (upd H A (.lst [.str (mk (joinL [10] sl)), .str "# Expected:"])) A = some (.lst [.str (mk (joinL [10] sl)), .str "# Expected:"]) := upd_same
        generalize upd H A (.lst [.str (mk (joinL [10] sl)), .str "# Expected:"]) = H0 at sA eA ⊢
        refine ⟨.ref q, rfl, q, C_Example, dx, fs, _, rfl, sA _ _ eq, T_Example.cl, T_Example.n_want, hw, rowsT ws, ws, [], rfl, (join_ten ws).symm, fun l hl => ?_, by omega, fun H1 p s1 np ep => ⟨p, rfl, ⟨_, SqL.of ep⟩, fun L nL => ?_⟩⟩
        · rcases List.mem_append.mp hl with h | h
          · exact w10 l h
          · rw [List.mem_singleton.mp h]
            exact nofun
        rw [ro] at ep
        have sL := same_new (o := .lst []) nL
        refine lc_list (K := K) (a := p) (xs := (ws.map mk).map V.str) (fun i H2 => H2 L = some (.lst ((((ws.take i)).map fun l => "## " ++ mk l).map V.str)) ∧ Same H1 H2) ⟨upd_same, sL⟩ (fun i H2 _ h => SqL.of (h.2 _ _ ep)) ?_ ?_
        · rintro i v H2 hv ⟨eL, s2⟩
          obtain ⟨z, rfl, hz⟩ := str_at hv
          rw [List.getElem?_map] at hz
          obtain ⟨l, hl, rfl⟩ := Option.map_eq_some_iff.mp hz
          have ll := lw l (List.mem_of_getElem? hl)
          have hi : i < ws.length := (List.getElem?_eq_some_iff.mp hl).1
          have l3 : ("## " : Str).length = 3 := rfl
          refine ⟨rfl, ?_⟩
          unfold tYes
          show ite (true = true) _ _
          rw [if_pos rfl]
          refine ⟨.str (mk l), rfl, _, _, rfl, rfl, by rw [mk_len, l3]; exact line_of (by omega), _, eL, ?_, ?_, fun b o e => ?_⟩
          · rw [List.length_map, List.length_map, List.length_take]
            exact Nat.lt_of_le_of_lt (show min i _ ≤ 50 by omega) (by decide)
          · rw [upd_same, List.take_add_one, hl, List.map_append, List.map_append]
            rfl
          · rw [upd_ne (ne_of_none e nL)]
            exact s2 b o e
        · rintro H2 ⟨eL, s2⟩
          rw [List.length_map, List.length_map, List.take_length] at eL
          refine ⟨A, L, _, _, rfl, rfl, s2 _ _ (s1 _ _ eA), eL, ?_, fun R nR => ?_⟩
          · rw [List.length_map, List.length_map]
            exact Nat.le_trans (show 2 + ws.length ≤ 100 by omega) (by decide)
          · have s3 := sA.trans (s1.trans s2)
            exact k _ R (s3.trans (same_new nR)) (s3.free nR) (by rw [upd_same, List.map_append]; rfl)
theorem in_list {a : Addr} {ys : List V} {g1 : TG} {tt1 : TT} {te : TE} {vs1 : List Nat} {σ2 : L2.St} {H4 : Hp} {D : Addr} {Nx : Hp → Prop} (Pw : Nat → Hp → Prop) (h0 : Pw 0 H4) (hl : ∀ j H, j ≤ ys.length → Pw j H → SqL K H a ys)
    (hs : ∀ j x H, ys[j]? = some x → Pw j H → g1 x (wipe σ2 vs1) H fun σ3 H5 => wipe σ3 vs1 = wipe σ2 vs1 ∧ tt1 σ3 H5 fun b H6 => if b = true then te σ3 H6 fun y H7 => ∃ acc, H7 D = some (.lst acc) ∧ acc.length < sizeLine ∧ Pw (j + 1) (upd H7 D (.lst (acc ++ [y]))) else Pw (j + 1) H6) (hd : ∀ H, Pw ys.length H → Nx H) :
    ∃ W1 : Nat → Nat → Hp → Prop, (∃ m, W1 0 m H4) ∧ ∀ j k H, W1 j k H →
      ((Itl K a).stop j H ∧ Nx H) ∨ ((Itl K a).go j H ∧ ∃ Nx1 : Hp → Prop, (∀ H', Nx1 H' → ∃ k', k' < k ∧ W1 (j + 1) k' H') ∧ ∀ x H', (Itl K a).yld j H x H' → g1 x (wipe σ2 vs1) H' fun σ3 H5 => wipe σ3 vs1 = wipe σ2 vs1 ∧ tt1 σ3 H5 fun b H6 =>
        if b = true then te σ3 H6 fun y H7 => ∃ acc, H7 D = some (.lst acc) ∧ acc.length < sizeLine ∧ Nx1 (upd H7 D (.lst (acc ++ [y]))) else Nx1 H6) := by
  refine ⟨fun i m H => m = ys.length - i ∧ i ≤ ys.length ∧ Pw i H, ⟨ys.length, by simp, Nat.zero_le _, h0⟩, ?_⟩
  rintro i m H ⟨rfl, hi, p⟩
  have q := hl i H hi p
  by_cases hlt : i < ys.length
  · refine .inr ⟨⟨ys, ys[i], q, by simp [hlt]⟩, Pw (i + 1), fun H' p' => ⟨ys.length - (i + 1), by omega, rfl, hlt, p'⟩, fun x H' y => ?_⟩
    obtain ⟨e, y⟩ := y
    subst e
    exact hs i x _ (y ys q) p
  · have e : i = ys.length := by omega
    subst e
    exact .inl ⟨⟨ys, q, Nat.le_refl _⟩, hd H p⟩
theorem lc2_list {a : Addr} {xs : List V} {g : TG} {tt : TT} {wi1 : TI} {g1 : TG} {tt1 : TT} {te : TE} {vs vs1 : List Nat} {σ : L2.St} {H1 : Hp} {D : Addr} {Qd : Hp → Prop} (Pv : Nat → Hp → Prop) (h0 : Pv 0 (upd H1 D (.lst []))) (hl : ∀ i H, i ≤ xs.length → Pv i H → SqL K H a xs)
    (hs : ∀ i x H, xs[i]? = some x → Pv i H → g x (wipe σ vs) H fun σ2 H2 => wipe σ2 vs = wipe σ vs ∧ tt σ2 H2 fun b H3 =>
      if b = true then wi1 σ2 H3 fun J1 H4 => ∃ W1 : Nat → Nat → Hp → Prop, (∃ m, W1 0 m H4) ∧ ∀ j k H, W1 j k H →
        (J1.stop j H ∧ Pv (i + 1) H) ∨ (J1.go j H ∧ ∃ Nx1 : Hp → Prop, (∀ H', Nx1 H' → ∃ k', k' < k ∧ W1 (j + 1) k' H') ∧ ∀ x H', J1.yld j H x H' → g1 x (wipe σ2 vs1) H' fun σ3 H5 => wipe σ3 vs1 = wipe σ2 vs1 ∧ tt1 σ3 H5 fun b H6 =>
          if b = true then te σ3 H6 fun y H7 => ∃ acc, H7 D = some (.lst acc) ∧ acc.length < sizeLine ∧ Nx1 (upd H7 D (.lst (acc ++ [y]))) else Nx1 H6)
      else Pv (i + 1) H3) (hd : ∀ H, Pv xs.length H → Qd H) :
    ∃ W : Nat → Nat → Hp → Prop, (∃ m, W 0 m (upd H1 D (.lst []))) ∧ ∀ i m H, W i m H →
      ((Itl K a).stop i H ∧ Qd H) ∨ ((Itl K a).go i H ∧ ∃ Nx : Hp → Prop, (∀ H', Nx H' → ∃ m', m' < m ∧ W (i + 1) m' H') ∧ ∀ x H', (Itl K a).yld i H x H' → g x (wipe σ vs) H' fun σ2 H2 => wipe σ2 vs = wipe σ vs ∧ tt σ2 H2 fun b H3 =>
        if b = true then wi1 σ2 H3 fun J1 H4 => ∃ W1 : Nat → Nat → Hp → Prop, (∃ m, W1 0 m H4) ∧ ∀ j k H, W1 j k H →
          (J1.stop j H ∧ Nx H) ∨ (J1.go j H ∧ ∃ Nx1 : Hp → Prop, (∀ H', Nx1 H' → ∃ k', k' < k ∧ W1 (j + 1) k' H') ∧ ∀ x H', J1.yld j H x H' → g1 x (wipe σ2 vs1) H' fun σ3 H5 => wipe σ3 vs1 = wipe σ2 vs1 ∧ tt1 σ3 H5 fun b H6 =>
            if b = true then te σ3 H6 fun y H7 => ∃ acc, H7 D = some (.lst acc) ∧ acc.length < sizeLine ∧ Nx1 (upd H7 D (.lst (acc ++ [y]))) else Nx1 H6)
        else Nx H3) := by
  refine ⟨fun i m H => m = xs.length - i ∧ i ≤ xs.length ∧ Pv i H, ⟨xs.length, by simp, Nat.zero_le _, h0⟩, ?_⟩
  rintro i m H ⟨rfl, hi, p⟩
  have q := hl i H hi p
  by_cases hlt : i < xs.length
  · refine .inr ⟨⟨xs, xs[i], q, by simp [hlt]⟩, Pv (i + 1), fun H' p' => ⟨xs.length - (i + 1), by omega, rfl, hlt, p'⟩, fun x H' y => ?_⟩
    obtain ⟨e, y⟩ := y
    subst e
    exact hs i x _ (y xs q) p
  · have e : i = xs.length := by omega
    subst e
    exact .inl ⟨⟨xs, q, Nat.le_refl _⟩, hd H p⟩
def sp_script_of (C D B : Addr) : Sp := fun vs H Q E => ∃ (x : Str) (ls init : List (List Nat)) (last : List Nat) (pl : List PcS), vs = [.str x] ∧ Whole x ls init last ∧ (∀ (H : Hp) (us : List V), PcsAt C D (rowsOf init last) H us (piecesL (keptOf init last) 0 (cutsL (rowsOf init last) 0)) → Paired (PsOk C D H) us pl) ∧
  ((pl.map psT).flatten.length ≤ 5000 ∧ ((pl.map psT).flatten.map (·.length)).sum ≤ 4000000) ∧ (badAll (rowsOf init last) (cutsL (rowsOf init last) 0) = none → ∀ H', Same H H' → Q (.str (scriptT (pl.map psT).flatten)) H') ∧
  ∀ n r f, badAll (rowsOf init last) (cutsL (rowsOf init last) 0) = some (n, r, f) → ∀ (H' : Hp) (d : Addr), Same H H' → H d = none → H' d = some (.xd [("found", .str f), ("reason", .str r), ("line", .int n)]) → E (.ref B) (some d) H'
theorem flat_at {pl : List PcS} {i : Nat} {p : PcS} (h : pl[i]? = some p) : ((pl.take (i + 1)).map psT).flatten = ((pl.take i).map psT).flatten ++ psT p := by
  rw [List.take_add_one, h, List.map_append, List.flatten_append]
  show _ ++ [psT p].flatten = _
  rw [List.flatten_cons, List.flatten_nil, List.append_nil]
theorem pfl_le {pl : List PcS} (i : Nat) : ((pl.take i).map psT).flatten.length ≤ (pl.map psT).flatten.length := by
  have e := congrArg List.length (congrArg (fun x : List PcS => (x.map psT).flatten) (List.take_append_drop i pl))
  rw [List.map_append, List.flatten_append, List.length_append] at e
  omega
theorem joinS_le (y : Str) : ∀ ws : List Str, (Txt.join y ws).length ≤ (ws.map (·.length)).sum + y.length * ws.length := by
  intro ws
  rw [join_eq, len_tl, tl_join]
  have hy : y.length = (tl y).length := len_tl y
  induction ws with
  | nil => exact Nat.zero_le _
  | cons a r ih =>
    have ha : (tl a).length = a.length := (len_tl a).symm
    cases r with
    | nil =>
      show (tl a).length ≤ (a.length + 0) + y.length * 1
      omega
    | cons b r =>
      show (tl a ++ (tl y ++ joinL (tl y) ((b :: r).map tl))).length ≤ _
      rw [List.length_append, List.length_append, List.length_cons (a := a), Nat.mul_succ, List.map_cons (a := a), List.sum_cons]
      omega
theorem rdw_sum (p : Str → Bool) : ∀ l : List Str, ((rdw p l).map (·.length)).sum ≤ (l.map (·.length)).sum ∧ (rdw p l).length ≤ l.length
  | [] => ⟨Nat.le_refl _, Nat.le_refl _⟩
  | a :: r => by
    obtain ⟨i1, i2⟩ := rdw_sum p r
    rw [rdw]
    split
    · exact ⟨Nat.zero_le _, Nat.zero_le _⟩
    · rw [List.map_cons, List.map_cons, List.sum_cons, List.sum_cons, List.length_cons, List.length_cons]
      exact ⟨by omega, by omega⟩
theorem dw_sum (p : Str → Bool) : ∀ l : List Str, ((l.dropWhile p).map (·.length)).sum ≤ (l.map (·.length)).sum ∧ (l.dropWhile p).length ≤ l.length
  | [] => ⟨Nat.le_refl _, Nat.le_refl _⟩
  | a :: r => by
    obtain ⟨i1, i2⟩ := dw_sum p r
    rw [List.dropWhile_cons]
    split
    · rw [List.map_cons, List.sum_cons, List.length_cons]
      exact ⟨by omega, by omega⟩
    · exact ⟨Nat.le_refl _, Nat.le_refl _⟩
theorem ok_script_of {f : Addr} {fd : FuncData} {dvs : List V} (F : Fn K "script_of" s_script_of dvs f fd) {C_Example : Addr} (T_Example : Txt_Example K mg C_Example) {C_Comment : Addr} (T_Comment : Txt_Comment K mg C_Comment) {C_BadText : Addr} (T_BadText : Err_BadText K mg C_BadText) (O_parsed : OwnX P w K mg base "parsed" 7 ["text"] [] (sp_parsed C_Example C_Comment C_BadText)) (O_parts_of : Own P w K mg base "parts_of" 3 ["piece"] [] (sp_parts_of C_Example C_Comment)) {t_NOTHING : Tok} (c_NOTHING : mg "NOTHING" = some (.str "#" t_NOTHING)) : FnOk P w K mg base (L2.CX P w) 8 f fd ["text"] (sp_script_of C_Example C_Comment C_BadText) := by
  refine Fn.okX F sc_script_of (fun vs H Q E h => ?_) (fun cdv A outer s H vs Q E hr h => ?_)
  · obtain ⟨_, _, _, _, _, rfl, _⟩ := h
    rfl
  · obtain ⟨x, ls, init, last, pl, rfl, wh, hps, hsz, k, kE⟩ := h
    refine ⟨_, (pss_cons (ps_setLc2 (i := 1) (own := [("piece", 2), ("part", 3)]) (vs1 := [3]) (g := gName 2) (g1 := gName 3) (tt := tYes) (tt1 := tYes) (by rfl) sc_script_of.nd rfl rfl (sw_true rfl rfl rfl (by decide +kernel)) (pi_list (pe_ownX O_parsed (hr.mono (by decide)) (takes_of rfl rfl rfl rfl) (fun _ _ _ _ h => h) (by rfl) (pa_cons (pv 0) pa_nil))) (blkOk_by (own := [("piece", 2), ("part", 3)]) (N := ["text", "parts", "piece", "part"]) (sc := defScope s_script_of) (by decide +kernel)) (by decide) (fun _ _ _ _ _ => (pg_name (i := 2) sc_script_of.nd rfl (.inl rfl))) (fun _ _ _ _ _ => pts_nil) (fun _ _ _ _ _ => (pi_listK (K' := K) rfl (pe_own O_parts_of (hr.mono (by decide)) (by rfl) (pa_cons (pv 2) pa_nil)))) (fun _ _ _ _ _ => (pg_name (i := 3) sc_script_of.nd rfl (.inl rfl))) (fun _ _ _ _ _ => pts_nil) (fun _ _ _ _ _ => (pv 3)))
      (pss_cut (ps_while (passes_of rfl) (PW.pt (pw_and (pt_tr (K' := K) (pv 1)) (pw_and1 (pt_cmpR op_eq (pe_ix ix_list (pv 1) (pe_un un_neg pe_int) (fun _ _ => rfl)) (pe_glob (v := .str "#") rfl c_NOTHING ⟨_, rfl⟩) (nomark _)))))
          (pss_one (ps_expr (pe_bm0 PySem.F.plainAttrs_list PySem.F.slot_list_pop PySem.F.type_list_pop mt_pop (pv 1)))))
      (pss_cut (ps_while (passes_of rfl) (PW.pt (pw_and (pt_tr (K' := K) (pv 1)) (pw_and1 (pt_cmpR op_eq (pe_ix ix_list (pv 1) pe_int (fun _ _ => rfl)) (pe_glob (v := .str "#") rfl c_NOTHING ⟨_, rfl⟩) (nomark _)))))
          (pss_one (ps_expr (pe_bm PySem.F.plainAttrs_list PySem.F.slot_list_pop PySem.F.type_list_pop mt_popAt (pv 1) (pa_cons pe_int pa_nil)))))
      (pss_one (ps_ret (pe_op op_add_str (pe_m1 PySem.F.slot_str_join PySem.F.type_str_join mt_join pe_str (pv 1)) pe_str)))))), ?_⟩
    refine ⟨.str x, rfl, x, ls, init, last, rfl, wh, fun hbad H1 L us s1 nL eL hpc => ⟨L, rfl, ⟨_, SqL.of eL⟩, fun C nC => ?_⟩, kE⟩
    have k := k hbad
    have ok := hps H1 us hpc
    have lp := Paired.length ok
    have LC : L ≠ C := ne_of_none eL nC
    refine lc2_list (K := K) (a := L) (xs := us) (fun i H2 => H2 C = some (.lst (((pl.take i).map psT).flatten.map V.str)) ∧ Same H1 H2) ⟨upd_same, same_new nC⟩ (fun i H2 _ h => SqL.of (h.2 _ _ eL)) ?_ ?_
    · rintro i v H2 hv ⟨eC, s2⟩
      have hi : i < us.length := (List.getElem?_eq_some_iff.mp hv).1
      have hg : pl[i]? = some pl[i] := List.getElem?_eq_getElem (by omega)
      have okv := (paired_at ok hv hg).same s2
      refine ⟨rfl, ?_⟩
      unfold tYes
      show ite (true = true) _ _
      rw [if_pos rfl]
      have hf := flat_at hg
      have hle := pfl_le (pl := pl) (i + 1)
      rw [hf, List.length_append] at hle
      generalize pl[i] = p at okv hf hle
      refine ⟨v, rfl, v, p, rfl, okv, fun H3 M s3 nM eM => ⟨M, rfl, ⟨_, SqL.of eM⟩, ?_⟩⟩
      have MC : M ≠ C := (ne_of_none eC nM).symm
      refine in_list (K := K) (a := M) (g1 := gName 3) (tt1 := tYes) (te := tVar 3) (vs1 := [3]) (D := C) (Nx := fun H => H C = some (.lst (((pl.take (i + 1)).map psT).flatten.map V.str)) ∧ Same H1 H) (ys := (psT p).map V.str) (fun j H4 => H4 C = some (.lst ((((pl.take i).map psT).flatten ++ (psT p).take j).map V.str)) ∧ (∀ b o, b ≠ C → H3 b = some o → H4 b = some o)) ⟨?_, fun _ _ _ e => e⟩ (fun j H4 _ h => SqL.of (h.2 _ _ MC eM)) ?_ ?_
      · rw [List.take_zero, List.append_nil]
        exact s3 _ _ eC
      · rintro j y H4 hy ⟨eC4, s4⟩
        obtain ⟨z, rfl, hz⟩ := str_at hy
        refine ⟨rfl, ?_⟩
        unfold tYes
        show ite (true = true) _ _
        rw [if_pos rfl]
        have hj : j < (psT p).length := (List.getElem?_eq_some_iff.mp hz).1
        refine ⟨.str z, rfl, _, eC4, ?_, ?_, fun b o n e => ?_⟩
        · rw [List.length_map, List.length_append, List.length_take]
          exact Nat.lt_of_le_of_lt (show _ ≤ 5000 by omega) (by decide)
        · rw [upd_same, List.take_add_one, hz]
          simp [List.map_append, List.append_assoc]
        · rw [upd_ne n]
          exact s4 b o n e
      · rintro H4 ⟨eC4, s4⟩
        rw [List.length_map, List.take_length, ← hf] at eC4
        exact ⟨eC4, fun b o e => s4 b o (ne_of_none e nC) (s3 _ _ (s2 _ _ e))⟩
    rintro H2 ⟨eC, s2⟩
    rw [lp, List.take_length] at eC
    have n0 := hsz.1
    have n1 := hsz.2
    generalize hF : (pl.map psT).flatten = F at eC n0 n1 k
    have s12 := s1.trans s2
    have nCH : H C = none := s1.free nC
    -- at the end
    refine ⟨fun σ H3 => σ = [some (.str x), some (.ref C), none, none] ∧ H3 C = some (.lst ((rdw isN F).map V.str)) ∧ (∀ b o, b ≠ C → H2 b = some o → H3 b = some o), ?_, ?_⟩
    · refine ⟨fun m σ H3 => ∃ G : List Str, σ = [some (.str x), some (.ref C), none, none] ∧ H3 C = some (.lst (G.map V.str)) ∧ (∀ b o, b ≠ C → H2 b = some o → H3 b = some o) ∧ m = G.length ∧ rdw isN G = rdw isN F, ⟨F.length, F, rfl, eC, fun _ _ _ e => e, rfl, rfl⟩, ?_⟩
      rintro m σ H3 ⟨G, rfl, eG, k3, rfl, hG⟩
      rcases nil_or_snoc G with rfl | ⟨G', z, rfl⟩
      · refine ⟨.ref C, rfl, false, .inl ⟨[], SqL.of eG, rfl⟩, iteF (iteF ⟨rfl, ?_, k3⟩)⟩
        rw [← hG]
        exact eG
      · have hat : atI ((G' ++ [z]).map V.str) (-1) = some (.str z) := by
          rw [List.map_append]
          exact atI_last _ _
        refine ⟨.ref C, rfl, true, .inl ⟨_, SqL.of eG, by simp⟩, iteT ⟨.ref C, rfl, 1, rfl, C, _, -1, .str z, rfl, rfl, SqL.of eG, hat, rfl, _, rfl, ?_⟩⟩
        rw [rdw_snoc] at hG
        show ite (isN z = true) _ _
        cases hz : isN z with
        | true =>
          rw [hz, if_pos rfl] at hG
          refine iteT ⟨fun σ' H' => σ' = [some (.str x), some (.ref C), none, none] ∧ H' C = some (.lst (G'.map V.str)) ∧ (∀ b o, b ≠ C → H2 b = some o → H' b = some o), fun σ' H' h => ⟨G'.length, by rw [List.length_append]; exact Nat.lt_succ_self _, G', h.1, h.2.1, h.2.2, rfl, hG⟩, ?_⟩
          refine ⟨.ref C, rfl, .inl ⟨rfl, _, SqL.of eG⟩, C, _, .str z, rfl, rfl, eG, ?_, rfl, ?_, fun b o n e => ?_⟩
          · rw [List.map_append, List.length_append]
            show (G'.map V.str ++ [V.str z])[(G'.map V.str).length + 1 - 1]? = _
            rw [Nat.add_sub_cancel, List.getElem?_append_right (Nat.le_refl _), Nat.sub_self]
            rfl
          · rw [upd_same, List.map_append]
            show some (HO.lst (G'.map V.str ++ [V.str z]).dropLast) = _
            rw [List.dropLast_concat]
          · rw [upd_ne n]
            exact k3 b o n e
        | false =>
          rw [hz, if_neg Bool.false_ne_true] at hG
          refine iteF ⟨rfl, ?_, k3⟩
          rw [← hG]
          exact eG
    rintro σ H3 ⟨rfl, eG3, k3⟩
    have s0 := rdw_sum isN F
    -- at the beginning
    refine ⟨fun σ H4 => σ = [some (.str x), some (.ref C), none, none] ∧ H4 C = some (.lst (((rdw isN F).dropWhile isN).map V.str)) ∧ (∀ b o, b ≠ C → H2 b = some o → H4 b = some o), ?_, ?_⟩
    · refine ⟨fun m σ H4 => ∃ G : List Str, σ = [some (.str x), some (.ref C), none, none] ∧ H4 C = some (.lst (G.map V.str)) ∧ (∀ b o, b ≠ C → H2 b = some o → H4 b = some o) ∧ m = G.length ∧ G.dropWhile isN = (rdw isN F).dropWhile isN, ⟨(rdw isN F).length, rdw isN F, rfl, eG3, k3, rfl, rfl⟩, ?_⟩
      rintro m σ H4 ⟨G, rfl, eG, k4, rfl, hG⟩
      cases G with
      | nil =>
        refine ⟨.ref C, rfl, false, .inl ⟨[], SqL.of eG, rfl⟩, iteF (iteF ⟨rfl, ?_, k4⟩)⟩
        rw [← hG]
        exact eG
      | cons z G' =>
        refine ⟨.ref C, rfl, true, .inl ⟨_, SqL.of eG, rfl⟩, iteT ⟨.ref C, rfl, C, _, 0, .str z, rfl, rfl, SqL.of eG, atI_nat (j := 0) rfl, rfl, _, rfl, ?_⟩⟩
        rw [List.dropWhile_cons] at hG
        show ite (isN z = true) _ _
        cases hz : isN z with
        | true =>
          rw [hz, if_pos rfl] at hG
          refine iteT ⟨fun σ' H' => σ' = [some (.str x), some (.ref C), none, none] ∧ H' C = some (.lst (G'.map V.str)) ∧ (∀ b o, b ≠ C → H2 b = some o → H' b = some o), fun σ' H' h => ⟨G'.length, Nat.lt_succ_self _, G', h.1, h.2.1, h.2.2, rfl, hG⟩, ?_⟩
          refine ⟨.ref C, rfl, .inl ⟨rfl, _, SqL.of eG⟩, C, _, 0, 0, .str z, rfl, rfl, eG, by decide, by decide, ?_, rfl, rfl, ?_, fun b o n e => ?_⟩
          · refine (ixN_seq (j := 0) ?_).1
            unfold ixN
            rw [if_pos (by decide), if_pos (by rw [List.length_map, List.length_cons]; omega)]
            rfl
          · rw [upd_same]
            rfl
          · rw [upd_ne n]
            exact k4 b o n e
        | false =>
          rw [hz, if_neg Bool.false_ne_true] at hG
          refine iteF ⟨rfl, ?_, k4⟩
          rw [← hG]
          exact eG
    rintro σ H4 ⟨rfl, eG4, k4⟩
    have s5 := dw_sum isN (rdw isN F)
    have s6 : Same H H4 := fun b o e => k4 b o (ne_of_none e nCH) (s12 _ _ e)
    have k5 := k H4 s6
    unfold scriptT at k5
    generalize (rdw isN F).dropWhile isN = G at eG4 s5 k5
    have l1 : ("\n" : Str).length = 1 := rfl
    have jl := joinS_le "\n" G
    rw [l1, Nat.one_mul] at jl
    refine ⟨⟨_, rfl⟩, .ref C, rfl, "\n", C, G, rfl, rfl, .inl (SqL.of eG4), by rw [l1]; omega, _, _, rfl, rfl, by rw [l1]; exact Nat.le_trans (show _ ≤ 5000000 by omega) (by decide), k5⟩
end

/-! ### END MARK -/

/-! ### a lambda handed to a def that asks it within a try -/
open LamX
theorem Takes.len {X : Cx} {W : WX} (tk : Takes X W) : Takes X (fun cls d σ H => σ.length = X.N.length → W cls d σ H) := fun u s' ⟨a, B, sI, pins, σ, H, cls, d, e, I, nb, up, sky, na, os, ag, w⟩ =>
  tk u s' ⟨a, B, sI, pins, σ, H, cls, d, e, I, nb, up, sky, na, os, ag, w I.len⟩
theorem exm_self {K : PySem.W.Frag} {mg : Str → Option Value} {B : Addr} (T : Err_BadText K mg B) : PySem.W.exmOne K (.ref B) (.ref B) = some true := by
  unfold PySem.W.exmOne
  rw [T.exc.hs, if_pos (by decide)]
  unfold PySem.W.kitCls
  dsimp only
  have h3 : ((PySem.W.clsIn K B).isSome && PySem.W.typeIn K (.ref B) == some (.type "type")) = true := by
    have h1 : (PySem.W.clsIn K B).isSome = true := T.iE
    rw [h1, T.oex.tyC]
    rfl
  rw [h3, if_pos rfl, T.sE]
/-- defs that may raise, held by a name -/
structure HeldX (P : Program) (w : World) (K : PySem.W.Frag) (mg : Str → Option Value) (base : Heap) (k : Nat) (f : Addr) (sp : Sp) : Prop where
  ex : ∃ (fd : FuncData) (ps : List Str), FnOk P w K mg base (L2.CX P w) k f fd ps sp ∧ PySem.W.keepIn K (.ref f) = true ∧ Binds K fd ps []
theorem OwnX.held {P : Program} {w : World} {K : PySem.W.Frag} {mg : Str → Option Value} {base : Heap} {x : Str} {j k : Nat} {ps : List Str} {sp : Sp} (O : OwnX P w K mg base x j ps [] sp) (h : j ≤ k) : ∃ f, mg x = some (.ref f) ∧ HeldX P w K mg base k f sp := by
  obtain ⟨f, fd, ds, F, hm, hk, hb, hd⟩ := O.ex
  cases hd
  exact ⟨f, hm, fd, ps, F.mono h, hk, hb⟩
def tCallAX (i : Nat) (S : Addr → Sp → Prop) (E : XK) (t : TA) : TE := fun σ H Q => ∃ f sp, σ[i]? = some (some (.ref f)) ∧ S f sp ∧ t σ H fun vs H1 => sp vs H1 Q E
section
variable {X : Cx} {k i : Nat} {x : Str} {p pos : Pos} {e : Expr} {es : List Expr} {t : TA} {E : XK}
theorem pe_callAX {S : Addr → Sp → Prop} (A : ∀ f sp, S f sp → HeldX X.prog X.w X.K X.mg X.base k f sp) (hr : Room k X.A) (hx : Passes (L2.CX X.prog X.w) X E) (hN : X.N[i]? = some x) (hv : Vis X.env.scope x) (ha : PA X (e :: es) t)
    (hdb : (x == ("__debug__" : Str)) = false := by decide) (hcd : (x == ("__classdict__" : Str)) = false := by decide)
    (he : starEach (e :: es) X.env = (false, eval e X.env) :: starEach es X.env := by rfl) (hpl : (backTo pos (starEach es X.env)).any (·.1) = false := by rfl) : PE X (.Call (.Name x p) (e :: es) [] pos) (tCallAX i S E t) :=
  ⟨fun pins s σ H Q I ⟨f, sp, hs, hS, ht⟩ => by
    obtain ⟨fd, ps, F, hk, hb⟩ := (A f sp hS).ex
    have key := pe_callL (pos := pos) (p := p) (dvs := []) F hr hN hv hk hb .nil hx ha hdb hcd he hpl
    refine key.run pins s σ H Q I ⟨hs, ?_⟩
    simpa only [List.append_nil] using ht⟩
end
/-- a def that takes a lambda, as its callers see it -/
structure OwnL (K : PySem.W.Frag) (mg : Str → Option Value) (x : Str) (st : Stmt) : Prop where
  ex : ∃ f fd, Fn K x st [] f fd ∧ mg x = some (.ref f)
section
variable {X : Cx} {x a : Str} {st : Stmt} {Ng : List Str} {c P : Addr} {k : Nat} {TT : (XK → Hp → VK → Prop) → Hp → VK → Prop} {params : Arguments} {body : Expr} {scope : Scope} {t : XK → TE} {p lpos pos : Pos}
theorem pe_lamL (O : OwnL X.K X.mg x st) (hb : ∀ {f fd}, Fn X.K x st [] f fd → L2.Binds X.K fd [a] []) (hr : Room (k + 2) X.A) (hg : Gl X x) (Sg : FnScope Ng [a] (defScope st)) (hNg : Ng[0]? = some a) (hva : Vis (defScope st) a)
    (hG : ∀ (g : Addr) (cdg : Value), GivesTo X Ng x (defScope st) g cdg (defBody st) a (X.env.qual ++ "<lambda>") TT) (TB : TabB X.base X.mg c P) (hcode : X.env.code = .ref c) (L : LamS X.env.scope scope)
    (hbody : ∀ (A : Around) (outer : List Env) (s : Shared) (H : Hp) (E : XK) (f c' : Addr), Room k (A.deeper (lamEnv X scope s.heap.objs.size f c')) → PE (lamCx X A outer s H E scope f c') body (t E))
    (hdef : defaultsOf params X.env = ([], []) := by rfl) (hbind : ∀ (q : Str) (cl : List (Str × Addr)) (pm cv ctv : Value), bindArgs (PySem.W.kla_fn "<lambda>" q params body scope cl pm cv ctv) ⟨[], []⟩ = pure [] := by intros; rfl)
    (hdb : (x == ("__debug__" : Str)) = false := by decide) (hd : (a == ("__debug__" : Str)) = false := by decide) (hcd : (a == ("__classdict__" : Str)) = false := by decide) :
    PE X (.Call (.Name x p) [.Lambda params body scope lpos] [] pos) (tLam [(P, X.env.qual ++ "<lambda>")] TT t) := by
  obtain ⟨g, fd, F, hm⟩ := O.ex
  have hk := F.kp
  have hbd := hb F
  obtain ⟨oc, od, dV, kV, doc, pm, an, cdv, ct, osl, rfl, lk, hcg, _⟩ := F.ex
  refine pe_lamcall hg hm hk lk hcg hbd Sg hNg hva (hG g cdv) TB hcode (List.mem_singleton.mpr rfl) (fun q hq _ => ?_) hr L hdef hbind hbody hdb hd hcd
  rw [List.mem_singleton.mp hq]
end
/-- _law_wrong: what a question tells, or what the error of a text holds -/
def TWrong (B : Addr) : (XK → Hp → VK → Prop) → Hp → VK → Prop := fun tl H Q => ∀ H0, Same H H0 →
  tl (fun cls d H1 => cls = .ref B ∧ ∃ (dd : Addr) (l r f : V), d = some dd ∧ H1 dd = some (.xd [("found", f), ("reason", r), ("line", l)]) ∧ ∀ H2 T, Same H1 H2 → H1 T = none → H2 T = some (.tup [l, r, f]) → Q (.ref T) H2) H0
    fun v H1 => ∀ H2 T, Same H1 H2 → H1 T = none → H2 T = some (.tup [.str "told", v]) → Q (.ref T) H2
theorem pss_ts {X : Cx} {st : List Stmt} {t t' : TS} (h : PSs X st t) (i : ∀ D σ H, t' D σ H → t D σ H) : PSs X st t' := ⟨fun pins s σ H D I h' => h.run pins s σ H D I (i D σ H h')⟩
theorem pss_if {X : Cx} {st : List Stmt} {p : Prop} {t : TS} (h : p → PSs X st t) : PSs X st (fun D σ H => p ∧ t D σ H) := ⟨fun pins s σ H D I h' => (h h'.1).run pins s σ H D I h'.2⟩
theorem pss_ex {ι : Type} {X : Cx} {st : List Stmt} {t : ι → TS} (h : ∀ i, PSs X st (t i)) : PSs X st (fun D σ H => ∃ i, t i D σ H) := ⟨fun pins s σ H D I ⟨i, h'⟩ => (h i).run pins s σ H D I h'⟩
def tSu (a dd : Addr) : TS := fun D σ H => ∃ (l r f : V) (v0 v1 : Option V), σ = [v0, v1, some (.ref a)] ∧ H dd = some (.xd [("found", f), ("reason", r), ("line", l)]) ∧ ∀ T, H T = none → D.nx [v0, some (.ref T), some (.ref a)] (upd H T (.tup [l, r, f]))
theorem pe_mono {X : Cx} {e : Expr} {t : TE} (h : PE X e t) : PE X e (fun σ H Q => ∃ Q' : VK, (∀ v H1, Q' v H1 → Q v H1) ∧ t σ H Q') := ⟨fun pins s σ H Q I ⟨Q', i, h'⟩ =>
  wpAny_mono (h.run pins s σ H Q' I h') (fun _ _ ⟨v, H1, I1, r, q⟩ => ⟨v, H1, I1, r, i _ _ q⟩) fun _ _ z => z⟩
def tBo (c' : Addr) (q : Str) (f : Addr) (tl : XK → Hp → VK → Prop) (Ech : XK) : TS := fun D σ H => ∃ v1 v2, σ = [some (.ref f), v1, v2] ∧ H c' = some (CodeO c' q) ∧ ∃ Q' : VK, (∀ v H1, Q' v H1 → ∀ T, H1 T = none → D.nx [some (.ref f), some (.ref T), v2] (upd H1 T (.tup [.str "told", v]))) ∧ tl Ech H Q'
theorem gives_wrong {X : Cx} {B E : Addr} {g : Addr} {cdg : Value} {q : Str} (T : Err_BadText X.K X.mg B) (mE : X.mg "PromptError" = some (.ref E)) (kE : PySem.W.kitOne X.K (.ref B) (.ref E) = some true) (mI : X.mg "isinstance" = none) :
    GivesTo X ["ask", "found", "e"] "_law_wrong" (defScope s_law_wrong) g cdg (defBody s_law_wrong) "ask" q (TWrong B) := by
  intro f c' s H Q tl act hc h
  have nd : (["ask", "found", "e"] : List Str).Nodup := by decide +kernel
  refine ⟨_, pss_cons (ps_set (i := 1) nd rfl (.inl rfl) (pe_tup (pa_cons pe_str pa_nil)))
    (pss_cons (ps_try_as (i := 2) (c := .ref B)
      (tb := fun W D σ H => ∃ Ech : XK, (∀ cls d σ' H', Ech cls d H' → σ'.length = 3 → W cls d σ' H') ∧ tBo c' q f tl Ech D σ H)
      (ts := fun a cls d D σ H => ∃ dd, (cls = .ref B ∧ d = some dd) ∧ tSu a dd D σ H)
      rfl rfl nd rfl rfl ⟨rfl, by decide, .inl T.mgC⟩ takes0 (fun W pn xe tk _ => ?_) (fun a oe cls d pn hz hf => ?_))
    (pss_one (ps_ret (pv 1)))), ?_⟩
  · refine pss_ex fun Ech => pss_if fun hW => pss_ts (pss_one (ps_set (i := 1) nd rfl (.inl rfl) (pe_tup (pa_cons pe_str (pa_cons (pe_mono (act (fun cls d σ H => σ.length = 3 → W cls d σ H) pn xe Ech _ _ (Takes.len tk) hW)) pa_nil))))) fun D σ H h' => ?_
    obtain ⟨v1, v2, rfl, h2, Q', i, h3⟩ := h'
    exact ⟨Q', fun v H1 q => ⟨by show 2 ≤ sizeLine; decide, fun T nT => i v H1 q T nT⟩, rfl, h2, h3⟩
  · refine pss_ex fun dd => pss_if fun hh => ?_
    obtain ⟨rfl, rfl⟩ := hh
    refine pss_ts (pss_one (ps_set (i := 1) nd rfl (.inl rfl) (pe_ifExp (pt_val (pe_callB (call_isEd T.exc hz hf) (by rfl) mI (by decide +kernel) (pa_cons (pv 2) (pa_cons (pe_glob (v := .ref E) rfl mE rfl) pa_nil))))
      (pe_tup (pa_cons (pe_xf T.xf T.n_line hz hf (pv 2)) (pa_cons (pe_xf T.xf T.n_reason hz hf (pv 2)) (pa_cons (pe_xf T.xf T.n_found hz hf (pv 2)) pa_nil)))) (pe_tup (pa_cons pe_str pa_nil))))) fun D σ H h' => ?_
    obtain ⟨l, r, fo, v0, v1, rfl, ed, k⟩ := h'
    exact ⟨.ref a, rfl, .ref E, .ref E, true, _, rfl, ed, fun u r => r, kE, true, rfl, iteT ⟨.ref a, rfl, rfl, rfl, dd, _, l, rfl, ed, rfl, .ref a, rfl, rfl, rfl, dd, _, r, rfl, ed, rfl, .ref a, rfl, rfl, rfl, dd, _, fo, rfl, ed, rfl, by show 3 ≤ sizeLine; decide, fun T nT => k T nT⟩⟩
  · refine ⟨by show 1 ≤ sizeLine; decide, fun T0 n0 => ?_⟩
    have s0 := same_new (o := .tup [.str "odd"]) n0
    refine ⟨_, fun cls d σ' H' hE hl => ?_, some (.ref T0), none, rfl, s0 _ _ hc, _, fun v H1 q T nT => ?_, h _ s0⟩
    · obtain ⟨rfl, dd, l, r, fo, rfl, ed, k⟩ := hE
      obtain ⟨x, y, z, rfl⟩ : ∃ x y z, σ' = [x, y, z] := by
        match σ', hl with
        | [x, y, z], _ => exact ⟨x, y, z, rfl⟩
      refine ⟨true, exm_self T, fun _ a na => ⟨dd, ⟨rfl, rfl⟩, l, r, fo, x, y, rfl, ed, fun T nT => ⟨.ref T, rfl, k _ T (same_new nT) nT upd_same⟩⟩, fun z => Bool.noConfusion z⟩
    · exact ⟨.ref T, rfl, q _ T (same_new nT) nT upd_same⟩
theorem sc_law_wrong3 : FnScope ["ask", "found", "e"] ["ask"] (defScope s_law_wrong) := ⟨rfl, rfl, rfl, by decide +kernel, rfl, by decide +kernel, by decide +kernel⟩
def rJoinK (K' : PySem.W.Frag) : V → List V → Hp → VK → Prop := fun x xs H Q => ∃ (a : Str) (p : Addr) (ys : List Str), x = .str a ∧ xs = [.ref p] ∧ (SqL K' H p (ys.map V.str) ∨ SqT K' H p (ys.map V.str)) ∧ (ys.map (·.length)).sum + ys.length * a.length ≤ 16777216 ∧ Q (.str (Txt.join a ys)) H
theorem mt_joinK {X : Cx} {K' : PySem.W.Frag} (hK : X.K = K') : MtR X "str.join" (rJoinK K') := by
  subst hK
  exact mt_join
/-- one of three defs -/
def AskS (f1 f2 f3 : Addr) (s1 s2 s3 : Sp) : Addr → Sp → Prop := fun f sp => (f = f1 ∧ sp = s1) ∨ (f = f2 ∧ sp = s2) ∨ (f = f3 ∧ sp = s3)
section
variable {P : Program} {w : World} {K : PySem.W.Frag} {mg : Str → Option Value} {base : Heap}
theorem askS_held {k : Nat} {f1 f2 f3 : Addr} {s1 s2 s3 : Sp} (h1 : HeldX P w K mg base k f1 s1) (h2 : HeldX P w K mg base k f2 s2) (h3 : HeldX P w K mg base k f3 s3) : ∀ f sp, AskS f1 f2 f3 s1 s2 s3 f sp → HeldX P w K mg base k f sp := by
  rintro f sp (⟨rfl, rfl⟩ | ⟨rfl, rfl⟩ | ⟨rfl, rfl⟩)
  · exact h1
  · exact h2
  · exact h3
/-- the law's def, its code object known -/
theorem fn_tab {N ps : List Str} {x : Str} {st : Stmt} {f c : Addr} {k : Nat} {sp : Sp} {dV kV doc pm ct oc : Value} {an od : Option Addr} {osl : Array (Option Value)} (lk : K.lookup f = some ⟨oc, od, .func (PySem.W.fnOf x x (defArgs st) (defBody st) (defScope st) dV kV doc pm an (.ref c) ct), osl⟩) (hcd : PySem.W.codeIn K (.ref c) x = true)
    (S : FnScope N ps (defScope st)) (len : ∀ vs H Q E, sp vs H Q E → vs.length = ps.length)
    (hbody : ∀ (A : Around) (outer : List Env) (s : Shared) (H : Hp) (vs : List V) (Q : VK) (E : XK), Room k (A.deeper (envOfC x (defScope st) s.heap.objs.size f (.ref c))) → sp vs H Q E →
      ∃ t, PSs (cxOf CX0 P w K mg base N x (defScope st) f (.ref c) A outer s H E).nox (defBody st) t ∧ t { nx := fun _ H' => Q .non H', rt := Q } (start N vs) H) :
    FnOk P w K mg base CX0 (k + 1) f (PySem.W.fnOf x x (defArgs st) (defBody st) (defScope st) dV kV doc pm an (.ref c) ct) ps sp :=
  fn_of lk hcd S len fun A outer s H vs Q E hr h => by
    obtain ⟨t, h1, h2⟩ := hbody A outer s H vs Q E hr h
    exact ⟨t, h1.nox, h2⟩
end

/-! ### the law -/
def strV (ls : List (List Nat)) : List V := (ls.map mk).map V.str
theorem str_mem {ls : List (List Nat)} {i : Nat} {v : V} (h : (strV ls)[i]? = some v) : ∃ l ∈ ls, v = .str (mk l) := by
  unfold strV at h
  rw [List.getElem?_map, List.getElem?_map] at h
  obtain ⟨s, hs, rfl⟩ := Option.map_eq_some_iff.mp h
  obtain ⟨l, hl, rfl⟩ := Option.map_eq_some_iff.mp hs
  exact ⟨l, List.mem_of_getElem? hl, rfl⟩
def GAPW : List (List Nat) := [[44], [44, 32], [32], [32, 32, 44], [32, 44, 32]]
theorem gapw_v : [V.str ",", V.str ", ", V.str " ", V.str "  ,", V.str " , "] = strV GAPW := by decide +kernel
def ENDW : List (List Nat) := [[], [], [32], [44]]
theorem endw_v : [V.str "", V.str "", V.str " ", V.str ","] = strV ENDW := by decide +kernel
section
variable {P : Program} {w : World} {K : PySem.W.Frag} {mg : Str → Option Value} {base : Heap}
def sp_law_flags : Sp := fun vs H Q _ => vs = [] ∧ ∀ (H' : Hp) (p : Addr), Same H H' → H p = none → H' p = some (.lst (strV FL)) → Q (.ref p) H'
theorem fl_v : [V.str "DONT_ACCEPT_TRUE_FOR_1", V.str "DONT_ACCEPT_BLANKLINE", V.str "NORMALIZE_WHITESPACE", V.str "ELLIPSIS", V.str "SKIP", V.str "FAIL_FAST"] ++ [V.str "IGNORE_EXCEPTION_DETAIL", V.str "REPORT_ONLY_FIRST_FAILURE"] = strV FL := by decide +kernel
theorem ok_law_flags {f : Addr} {fd : FuncData} {dvs : List V} (F : Fn K "_law_flags" s_law_flags dvs f fd) : FnOk P w K mg base CX0 1 f fd [] (sp_law_flags) := by
  refine Fn.okN F sc_law_flags (fun vs H Q E h => ?_) (fun cdv A outer s H vs Q E hr h => ?_)
  · obtain ⟨rfl, _⟩ := h
    rfl
  · obtain ⟨rfl, k⟩ := h
    refine ⟨_, (pss_cons (ps_set (i := 0) sc_law_flags.nd rfl (.inl rfl) (pe_lst (pa_cons pe_str (pa_cons pe_str (pa_cons pe_str (pa_cons pe_str (pa_cons pe_str (pa_cons pe_str pa_nil))))))))
      (pss_one (ps_ret (pe_op op_cat (pv 0) (pe_lst (pa_cons pe_str (pa_cons pe_str pa_nil))))))), ?_⟩
    refine ⟨by show 6 ≤ sizeLine; decide, fun A nA => ⟨_, rfl, by show 2 ≤ sizeLine; decide, fun B nB => ?_⟩⟩
    have sA := same_new (o := .lst [V.str "DONT_ACCEPT_TRUE_FOR_1", V.str "DONT_ACCEPT_BLANKLINE", V.str "NORMALIZE_WHITESPACE", V.str "ELLIPSIS", V.str "SKIP", V.str "FAIL_FAST"]) nA
    have sB := same_new (o := .lst [V.str "IGNORE_EXCEPTION_DETAIL", V.str "REPORT_ONLY_FIRST_FAILURE"]) nB
    refine ⟨A, B, _, _, rfl, rfl, sB _ _ upd_same, upd_same, by show 8 ≤ sizeLine; decide, fun C nC => ?_⟩
    rw [fl_v]
    exact k _ C ((sA.trans sB).trans (same_new nC)) ((sA.trans sB).free nC) upd_same
/-- the ways to write a directive, where they lie -/
def WaysAt (H : Hp) (ts : List Addr) : Prop := Paired (fun (t : Addr) (w : List Nat × List Nat) => H t = some (.tup [.str (mk w.1), .str (mk w.2)])) ts WAYS
def tupS (w : List Nat × List Nat) : HO := .tup [.str (mk w.1), .str (mk w.2)]
theorem tup_v (a b : String) (x y : List Nat) (h1 : tl (Str.ofString a) = x) (h2 : tl (Str.ofString b) = y) : HO.tup [V.str (Str.ofString a), V.str (Str.ofString b)] = tupS (x, y) := by
  subst h1 h2
  rfl
theorem fine_app {a b : List Nat} (h : a.all fine = true) (k : b.all fine = true) : (a ++ b).all fine = true := by
  rw [List.all_append, h, k]
  rfl
theorem gapw_ok : (GAPW.all fun g => (g.all fine && decide (g.length ≤ 3)) && (decide (cm g = sps 1) || (decide (cm g = sps 2) || decide (cm g = sps 3)))) = true := by decide +kernel
theorem wordF_facts {u : List Nat} (h : wordF u = true) : u.all fine = true ∧ (32 : Nat) ∉ u ∧ (44 : Nat) ∉ u ∧ u ≠ [] ∧ u.length ≤ 26 := by
  unfold wordF at h
  rw [Bool.and_eq_true, Bool.and_eq_true, decide_eq_true_eq] at h
  obtain ⟨h1, h2, h3⟩ := h
  rw [List.all_eq_true] at h1
  refine ⟨List.all_eq_true.mpr fun c hc => ?_, fun hc => ?_, fun hc => ?_, fun e => ?_, h3⟩
  · have := h1 c hc
    rw [Bool.and_eq_true] at this
    exact this.1
  · have := h1 _ hc
    rw [Bool.and_eq_true] at this
    exact absurd this.2 (by decide)
  · have := h1 _ hc
    rw [Bool.and_eq_true] at this
    exact absurd this.2 (by decide)
  · rw [e] at h2
    cases h2
theorem Dr.nil : Dr [] [] := ⟨Wd.nil, rfl⟩
theorem Dr.first {u : List Nat} (h : wordF u = true) : Dr ([] ++ ([] ++ u)) [u] := by
  obtain ⟨h1, h2, h3, h4, _⟩ := wordF_facts h
  refine ⟨?_, h1⟩
  show Wd (cm u) [u]
  rw [cm_no h3]
  exact Wd.one h2 h4
theorem Dr.more {b g u : List Nat} {ws : List (List Nat)} (d : Dr b ws) (hg : g ∈ GAPW) (h : wordF u = true) : Dr (b ++ (g ++ u)) (ws ++ [u]) := by
  obtain ⟨h1, h2, h3, h4, _⟩ := wordF_facts h
  have go := List.all_eq_true.mp gapw_ok g hg
  rw [Bool.and_eq_true, Bool.and_eq_true, Bool.or_eq_true, Bool.or_eq_true, decide_eq_true_eq, decide_eq_true_eq, decide_eq_true_eq, decide_eq_true_eq] at go
  refine ⟨?_, fine_app d.fn (fine_app go.1.1 h1)⟩
  rw [cm_app, cm_app, cm_no h3]
  rcases go.2 with e | e | e
  · rw [e]
    exact d.wd.word 0 h2 h4
  · rw [e]
    exact d.wd.word 1 h2 h4
  · rw [e]
    exact d.wd.word 2 h2 h4
theorem Dr.last {b e : List Nat} {ws : List (List Nat)} (d : Dr b ws) (he : e ∈ ENDW) : Dr (b ++ e) ws := by
  unfold ENDW at he
  simp only [List.mem_cons, List.not_mem_nil, or_false] at he
  rcases he with rfl | rfl | rfl | rfl
  · rw [List.append_nil]
    exact d
  · rw [List.append_nil]
    exact d
  · refine ⟨?_, fine_app d.fn rfl⟩
    rw [cm_app]
    exact d.wd.trail
  · refine ⟨?_, fine_app d.fn rfl⟩
    rw [cm_app]
    exact d.wd.trail
theorem mulOk01 {z : Str} {k : Int} (hk : k = 0 ∨ k = 1) : MulOk z k := by
  rcases hk with rfl | rfl
  · exact ⟨by decide, fun h => absurd (by decide : (0 : Int) < 1) h, fun h => absurd (by decide : (0 : Int) < 1) h⟩
  · refine ⟨by decide, fun _ h => ?_, fun _ h => ?_⟩
    · rw [show ((1 : Int) == 1) = true from rfl, Bool.true_or] at h
      cases h
    · rw [show ((1 : Int) == 1) = true from rfl, Bool.true_or] at h
      cases h
theorem Kept.free' {D A B R : Addr} {m : Int} {H H' : Hp} (k : Kept D A H H') (d : Drw H' D A B m) (n : H' R = none) : H R = none := by
  obtain ⟨a, b⟩ := fresh_ne d n
  cases h : H R with
  | none => rfl
  | some o =>
    rw [k _ _ h a b] at n
    cases n
theorem mul_0 (z : Str) : Txt.mul z 0 = mk [] := by
  unfold Txt.mul
  rw [if_pos (by omega)]
  exact ext_tl (by decide +kernel)
theorem mul_1 (l : List Nat) : Txt.mul (mk l) 1 = mk l := by
  unfold Txt.mul
  rw [if_neg (by omega), if_pos (by rfl)]
theorem app_mk (a b : List Nat) : mk a ++ mk b = mk (a ++ b) := ext_tl (tl_append _ _)
theorem endw_len : (ENDW.all fun e => decide (e.length ≤ 1)) = true := by decide +kernel
def sp_law_directive : Sp := fun vs H Q _ => ∃ (D A B p : Addr) (n : Int) (ws : List (List Nat)), vs = [.ref D, .ref p] ∧ Drw H D A B n ∧ n < 900000 ∧ H p = some (.lst (strV ws)) ∧ p ≠ D ∧ p ≠ A ∧ ws.length ≤ 5 ∧ (∀ u ∈ ws, wordF u = true) ∧
  ∀ (H' : Hp) (t : Addr) (wy : List Nat × List Nat) (b : List Nat) (m : Int), wy ∈ WAYS → Dr b ws → b.length ≤ 150 → H t = none → H' t = some (tupS (wy.1, wy.2 ++ b)) → Drw H' D A B m → m ≤ n + 10 → Kept D A H H' → Q (.ref t) H'
theorem ok_law_directive {f : Addr} {fd : FuncData} {dvs : List V} (F : Fn K "_law_directive" s_law_directive dvs f fd) (O_law_pick : Own P w K mg base "_law_pick" 3 ["draws", "things"] [] (sp_law_pick)) (m_enumerate : mg "enumerate" = none) (m_int : mg "int" = none) : FnOk P w K mg base CX0 4 f fd ["draws", "words"] (sp_law_directive) := by
  refine Fn.okN F sc_law_directive (fun vs H Q E h => ?_) (fun cdv A outer s H vs Q E hr h => ?_)
  · obtain ⟨_, _, _, _, _, _, rfl, _⟩ := h
    rfl
  · obtain ⟨D, A1, B, p, n, ws, rfl, dr, hn, hp, pD, pA, hl, hw, k⟩ := h
    refine ⟨_, (pss_cons (ps_set (i := 2) sc_law_directive.nd rfl (.inl rfl) (pe_lst (pa_cons (pe_tup (pa_cons pe_str (pa_cons pe_str pa_nil))) (pa_cons (pe_tup (pa_cons pe_str (pa_cons pe_str pa_nil))) (pa_cons (pe_tup (pa_cons pe_str (pa_cons pe_str pa_nil))) (pa_cons (pe_tup (pa_cons pe_str (pa_cons pe_str pa_nil))) (pa_cons (pe_tup (pa_cons pe_str (pa_cons pe_str pa_nil))) pa_nil)))))))
      (pss_cons (ps_asg (pe_own O_law_pick (hr.mono (by decide)) (by rfl) (pa_cons (pv 0) (pa_cons (pe_op op_cat (pv 2) (pe_lst (pa_cons (pe_tup (pa_cons pe_str (pa_cons pe_str pa_nil))) (pa_cons (pe_tup (pa_cons pe_str (pa_cons pe_str pa_nil))) pa_nil)))) pa_nil))) (pg_tup rfl (pgs_cons (pg_name (i := 3) sc_law_directive.nd rfl (.inl rfl)) (pgs_cons (pg_name (i := 4) sc_law_directive.nd rfl (.inl rfl)) pgs_nil))))
      (pss_cons (ps_for PassesOwn.never rfl (pi_enum (by rfl) m_enumerate (pa_cons (pv 1) pa_nil)) (pg_tup rfl (pgs_cons (pg_name (i := 5) sc_law_directive.nd rfl (.inl rfl)) (pgs_cons (pg_name (i := 6) sc_law_directive.nd rfl (.inl rfl)) pgs_nil)))
          (pss_cons (ps_set (i := 7) sc_law_directive.nd rfl (.inl rfl) (pe_own O_law_pick (hr.mono (by decide)) (by rfl) (pa_cons (pv 0) (pa_cons (pe_lst (pa_cons pe_str (pa_cons pe_str (pa_cons pe_str (pa_cons pe_str (pa_cons pe_str pa_nil)))))) pa_nil))))
            (pss_one (ps_set (i := 4) sc_law_directive.nd rfl (.inl rfl) (pe_op op_add_str (pe_op op_add_str (pv 4) (pe_op op_repS (pv 7) (pe_callTy call_int1 (by rfl) m_int (by decide +kernel) (pa_cons (pe_cmpR op_gt (pv 5) pe_int (nomark _)) pa_nil)))) (pv 6))))))
      (pss_one (ps_ret (pe_tup (pa_cons (pv 3) (pa_cons (pe_op op_add_str (pv 4) (pe_own O_law_pick (hr.mono (by decide)) (by rfl) (pa_cons (pv 0) (pa_cons (pe_lst (pa_cons pe_str (pa_cons pe_str (pa_cons pe_str (pa_cons pe_str pa_nil))))) pa_nil)))) pa_nil)))))))), ?_⟩
    refine ⟨by show 2 ≤ sizeLine; decide, fun T1 n1 => ?_⟩
    generalize h1 : upd H T1 _ = H1
    obtain ⟨s1, e1⟩ := laid h1 n1
    refine ⟨by show 2 ≤ sizeLine; decide, fun T2 n2 => ?_⟩
    generalize h2 : upd H1 T2 _ = H2
    obtain ⟨s2, e2⟩ := laid h2 n2
    refine ⟨by show 2 ≤ sizeLine; decide, fun T3 n3 => ?_⟩
    generalize h3 : upd H2 T3 _ = H3
    obtain ⟨s3, e3⟩ := laid h3 n3
    refine ⟨by show 2 ≤ sizeLine; decide, fun T4 n4 => ?_⟩
    generalize h4 : upd H3 T4 _ = H4
    obtain ⟨s4, e4⟩ := laid h4 n4
    refine ⟨by show 2 ≤ sizeLine; decide, fun T5 n5 => ?_⟩
    generalize h5 : upd H4 T5 _ = H5
    obtain ⟨s5, e5⟩ := laid h5 n5
    refine ⟨by show 5 ≤ sizeLine; decide, fun L nL => ?_⟩
    generalize h6 : upd H5 L _ = H6
    obtain ⟨s6, eL⟩ := laid h6 nL
    refine ⟨.ref D, rfl, _, rfl, by show 2 ≤ sizeLine; decide, fun T6 n6 => ?_⟩
    generalize h7 : upd H6 T6 _ = H7
    obtain ⟨s7, e6⟩ := laid h7 n6
    refine ⟨by show 2 ≤ sizeLine; decide, fun T7 n7 => ?_⟩
    generalize h8 : upd H7 T7 _ = H8
    obtain ⟨s8, e7⟩ := laid h8 n7
    refine ⟨by show 2 ≤ sizeLine; decide, fun M nM => ?_⟩
    generalize h9 : upd H8 M _ = H9
    obtain ⟨s9, eM⟩ := laid h9 nM
    clear h1 h2 h3 h4 h5 h6 h7 h8 h9
    refine ⟨L, M, _, _, rfl, rfl, s9 _ _ (s8 _ _ (s7 _ _ eL)), eM, by show 7 ≤ sizeLine; decide, fun O nO => ?_⟩
    generalize h10 : upd H9 O _ = H10
    obtain ⟨s10, eO⟩ := laid h10 nO
    have sa : Same H H9 := s1.trans (s2.trans (s3.trans (s4.trans (s5.trans (s6.trans (s7.trans (s8.trans s9)))))))
    have dO := dr.same (sa.trans s10)
    obtain ⟨OD, OA⟩ := fresh_ne (dr.same sa) nO
    refine ⟨D, A1, B, .ref O, n, _, rfl, dO, by omega, .inl ⟨O, rfl, .inl eO, OD, OA⟩, by show 1 ≤ 7; decide, by show 7 < 1000000; decide, fun i v H11 hv d11 k11 => ?_⟩
    obtain ⟨t, wy, rfl, hwy, et, nt⟩ : ∃ t wy, v = .ref t ∧ wy ∈ WAYS ∧ H10 t = some (tupS wy) ∧ H t = none := by
      have hm := List.mem_of_getElem? hv
      have f2 := s1.free n2
      have f3 := s1.free (s2.free n3)
      have f4 := s1.free (s2.free (s3.free n4))
      have f5 := s1.free (s2.free (s3.free (s4.free n5)))
      have f6 := s1.free (s2.free (s3.free (s4.free (s5.free (s6.free n6)))))
      have f7 := s1.free (s2.free (s3.free (s4.free (s5.free (s6.free (s7.free n7))))))
      rw [tup_v "" "# doctest: " [] _ (by decide +kernel) rfl] at e1
      rw [tup_v "" "#doctest:" [] _ (by decide +kernel) rfl] at e2
      rw [tup_v "" "#  doctest:  " [] _ (by decide +kernel) rfl] at e3
      rw [tup_v "# a " "# doctest: " _ _ rfl rfl] at e4
      rw [tup_v "#" "# doctest:" [35] _ (by decide +kernel) rfl] at e5
      rw [tup_v "# # " "#doctest: " _ _ rfl rfl] at e6
      rw [tup_v "# doctest " "# doctest:" _ _ rfl rfl] at e7
      have t9 : Same H5 H10 := s6.trans (s7.trans (s8.trans (s9.trans s10)))
      simp only [List.cons_append, List.nil_append, List.mem_cons, List.not_mem_nil, or_false] at hm
      have w0 : ∀ j : Nat, ∀ y, WAYS[j]? = some y → y ∈ WAYS := fun j y h => List.mem_of_getElem? h
      rcases hm with rfl | rfl | rfl | rfl | rfl | rfl | rfl
      · exact ⟨_, _, rfl, w0 0 _ rfl, t9 _ _ (s5 _ _ (s4 _ _ (s3 _ _ (s2 _ _ e1)))), n1⟩
      · exact ⟨_, _, rfl, w0 1 _ rfl, t9 _ _ (s5 _ _ (s4 _ _ (s3 _ _ e2))), f2⟩
      · exact ⟨_, _, rfl, w0 2 _ rfl, t9 _ _ (s5 _ _ (s4 _ _ e3)), f3⟩
      · exact ⟨_, _, rfl, w0 3 _ rfl, t9 _ _ (s5 _ _ e4), f4⟩
      · exact ⟨_, _, rfl, w0 4 _ rfl, t9 _ _ e5, f5⟩
      · exact ⟨_, _, rfl, w0 5 _ rfl, s10 _ _ (s9 _ _ (s8 _ _ e6)), f6⟩
      · exact ⟨_, _, rfl, w0 6 _ rfl, s10 _ _ (s9 _ _ e7), f7⟩
    obtain ⟨tD, tA⟩ := fresh_ne dr nt
    have et1 := k11 _ _ et tD tA
    have kH : Kept D A1 H H11 := Kept.fresh (sa.trans s10) k11
    refine ⟨t, [.str (mk wy.1), .str (mk wy.2)], rfl, SqT.of et1, rfl, _, _, rfl, _, _, rfl, rfl, .ref p, rfl, p, _, rfl, SqL.of (kH _ _ hp pD pA), for_enum (K := K) (a := p) (xs := strV ws) (fun j σ H2 => ∃ (b : List Nat) (m : Int) (v5 v6 v7 : Option V), σ = [some (.ref D), some (.ref p), some (.ref L), some (.str (mk wy.1)), some (.str (mk (wy.2 ++ b))), v5, v6, v7] ∧ Dr b (ws.take j) ∧ b.length ≤ 29 * j ∧ Drw H2 D A1 B m ∧ m ≤ n + 1 + j ∧ Kept D A1 H H2) ⟨[], n + 1, none, none, none, by rw [List.append_nil]; rfl, Dr.nil, by decide, d11, by omega, kH⟩ (fun j σ H2 _ h => by
      obtain ⟨_, _, _, _, _, _, _, _, _, _, k2⟩ := h
      exact SqL.of (k2 _ _ hp pD pA)) ?_ ?_⟩
    · rintro j v T σ H2 hv ⟨b, m, v5, v6, v7, rfl, hd, hbl, d2, hm, k2⟩ nT
      have hju : ∃ u, ws[j]? = some u ∧ v = .str (mk u) := by
        unfold strV at hv
        rw [List.getElem?_map, List.getElem?_map] at hv
        obtain ⟨z, hz, rfl⟩ := Option.map_eq_some_iff.mp hv
        obtain ⟨u, hu, rfl⟩ := Option.map_eq_some_iff.mp hz
        exact ⟨u, hu, rfl⟩
      obtain ⟨u, hu, rfl⟩ := hju
      have huo := hw u (List.mem_of_getElem? hu)
      have hjl : j < ws.length := (List.getElem?_eq_some_iff.mp hu).1
      have htk : ws.take (j + 1) = ws.take j ++ [u] := by rw [List.take_add_one, hu]; rfl
      have sT := same_new (o := .tup [.int (j : Nat), .str (mk u)]) nT
      refine ⟨T, [.int (j : Nat), .str (mk u)], rfl, SqT.of upd_same, rfl, _, _, rfl, _, _, rfl, rfl, .ref D, rfl, by show 5 ≤ sizeLine; decide, fun G nG => ?_⟩
      generalize upd H2 T _ = H3 at sT nG ⊢
      generalize g1 : upd H3 G _ = H4
      obtain ⟨sG, eG⟩ := laid g1 nG
      have d4 := d2.same (sT.trans sG)
      obtain ⟨GD, GA⟩ := fresh_ne (d2.same sT) nG
      refine ⟨D, A1, B, .ref G, m, _, rfl, d4, by omega, .inl ⟨G, rfl, .inl eG, GD, GA⟩, by show 1 ≤ 5; decide, by show 5 < 1000000; decide, fun i2 v H5 hv5 d5 k5 => ?_⟩
      rw [gapw_v] at hv5
      obtain ⟨g, hg, rfl⟩ := str_mem hv5
      have go := List.all_eq_true.mp gapw_ok g hg
      rw [Bool.and_eq_true, Bool.and_eq_true, decide_eq_true_eq] at go
      have wl : wy.2.length ≤ 13 := by
        have wo := List.all_eq_true.mp way_ok wy hwy
        rw [Bool.and_eq_true, Bool.and_eq_true, decide_eq_true_eq] at wo
        exact wo.2.2.2.1
      have ul := (wordF_facts huo).2.2.2.2
      have k6 : Kept D A1 H H5 := (k2.trans (Kept.of (sT.trans sG))).trans k5
      have l5 : (wy.2 ++ b).length ≤ 160 := by
        rw [List.length_append]
        omega
      refine ⟨_, rfl, _, rfl, _, rfl, _, _, rfl, rfl, .inr ⟨_, rfl, _, _, rfl, rfl, mulOk01 (by cases decide ((0 : Int) < (j : Nat)) <;> simp), ?_⟩⟩
      obtain ⟨gg, ggl, eg, hd2⟩ : ∃ gg : List Nat, gg.length ≤ 3 ∧ Txt.mul (mk g) (if decide ((0 : Int) < (j : Nat)) = true then 1 else 0) = mk gg ∧ Dr (b ++ (gg ++ u)) (ws.take (j + 1)) := by
        rw [htk]
        rcases Nat.eq_zero_or_pos j with rfl | hj
        · refine ⟨[], Nat.zero_le _, ?_, ?_⟩
          · rw [if_neg (by decide)]
            exact mul_0 _
          · have : b = [] := List.length_eq_zero_iff.mp (by omega)
            subst this
            exact Dr.first huo
        · refine ⟨g, go.1.2, ?_, hd.more hg huo⟩
          rw [if_pos (by rw [decide_eq_true_eq]; omega)]
          exact mul_1 g
      rw [eg]
      refine ⟨_, _, rfl, rfl, ?_, _, rfl, _, _, rfl, rfl, ?_, ?_⟩
      · rw [mk_len, mk_len]
        exact line_of (by omega)
      · rw [app_mk, mk_len, mk_len, List.length_append]
        exact line_of (by omega)
      · refine ⟨b ++ (gg ++ u), m + 1, some (.int (j : Nat)), some (.str (mk u)), some (.str (mk g)), ?_, hd2, ?_, d5, by omega, k6⟩
        · rw [app_mk, app_mk]
          have e3 : wy.2 ++ b ++ gg ++ u = wy.2 ++ (b ++ (gg ++ u)) := by simp
          rw [e3]
          rfl
        · rw [List.length_append, List.length_append]
          omega
    · rintro σ H2 ⟨b, m, v5, v6, v7, rfl, hd, hbl, d2, hm, k2⟩
      have lws : (strV ws).length = ws.length := by
        unfold strV
        rw [List.length_map, List.length_map]
      rw [lws] at hbl hm
      rw [lws, List.take_length] at hd
      have wl : wy.2.length ≤ 13 := by
        have wo := List.all_eq_true.mp way_ok wy hwy
        rw [Bool.and_eq_true, Bool.and_eq_true, decide_eq_true_eq] at wo
        exact wo.2.2.2.1
      refine ⟨_, rfl, _, rfl, .ref D, rfl, by show 4 ≤ sizeLine; decide, fun G nG => ?_⟩
      generalize g1 : upd H2 G _ = H4
      obtain ⟨sG, eG⟩ := laid g1 nG
      have d4 := d2.same sG
      obtain ⟨GD, GA⟩ := fresh_ne d2 nG
      refine ⟨D, A1, B, .ref G, m, _, rfl, d4, by omega, .inl ⟨G, rfl, .inl eG, GD, GA⟩, by show 1 ≤ 4; decide, by show 4 < 1000000; decide, fun i2 v H5 hv5 d5 k5 => ?_⟩
      rw [endw_v] at hv5
      obtain ⟨e, he, rfl⟩ := str_mem hv5
      have el := List.all_eq_true.mp endw_len e he
      rw [decide_eq_true_eq] at el
      have l5 : (wy.2 ++ b).length ≤ 170 := by
        rw [List.length_append]
        omega
      refine ⟨_, _, rfl, rfl, ?_, by show 2 ≤ sizeLine; decide, fun R nR => ?_⟩
      · rw [mk_len, mk_len]
        exact line_of (by omega)
      have k6 : Kept D A1 H H5 := (k2.trans (Kept.of sG)).trans k5
      have sR := same_new (o := .tup [.str (mk wy.1), .str (mk (wy.2 ++ b) ++ mk e)]) nR
      have nRH : H R = none := k6.free' d5 nR
      refine k _ R wy (b ++ e) (m + 1) hwy (hd.last he) ?_ nRH ?_ (d5.same sR) (by omega) (k6.trans (Kept.of sR))
      · rw [List.length_append]
        omega
      · rw [upd_same, app_mk, List.append_assoc]
        rfl
def sp_law_words : Sp := fun vs H Q _ => ∃ (D A B : Addr) (n : Int), vs = [.ref D, .int 3] ∧ Drw H D A B n ∧ n < 900000 ∧
  ∀ (H' : Hp) (p : Addr) (ws : List (List Nat)) (m : Int), ws.length ≤ 3 → (∀ u ∈ ws, wordF u = true) → H p = none → H' p = some (.lst (strV ws)) → Drw H' D A B m → m ≤ n + 10 → Kept D A H H' → Q (.ref p) H'
theorem sign_v {i : Nat} {v : V} (h : ((tl "+-").map fun c => V.str ⟨#[c]⟩)[i]? = some v) : ∃ s ∈ SIGNS, v = .str (mk s) := by
  have e : ((tl "+-").map fun c => V.str ⟨#[c]⟩) = strV SIGNS := by decide +kernel
  rw [e] at h
  exact str_mem h
theorem strV_snoc (ls : List (List Nat)) (l : List Nat) : strV ls ++ [V.str (mk l)] = strV (ls ++ [l]) := by
  unfold strV
  rw [List.map_append, List.map_append]
  rfl
theorem strV_len (ls : List (List Nat)) : (strV ls).length = ls.length := by
  unfold strV
  rw [List.length_map, List.length_map]
theorem ok_law_words {f : Addr} {fd : FuncData} {dvs : List V} (F : Fn K "_law_words" s_law_words dvs f fd) (O_law_take : Own P w K mg base "_law_take" 2 ["draws", "size"] [] (sp_law_take)) (O_law_pick : Own P w K mg base "_law_pick" 3 ["draws", "things"] [] (sp_law_pick)) (O_law_flags : Own P w K mg base "_law_flags" 1 [] [] (sp_law_flags)) (m_range : mg "range" = none) : FnOk P w K mg base CX0 4 f fd ["draws", "most"] (sp_law_words) := by
  refine Fn.okN F sc_law_words (fun vs H Q E h => ?_) (fun cdv A outer s H vs Q E hr h => ?_)
  · obtain ⟨_, _, _, _, rfl, _⟩ := h
    rfl
  · obtain ⟨D, A1, B, n, rfl, dr, hn, k⟩ := h
    refine ⟨_, (pss_one (ps_ret (pe_lc (own := [("k", 2)]) (g := gName 2) (tt := tYes) (by rfl) sc_law_words.nd (pi_range1 rfl m_range (pa_cons (pe_own O_law_take (hr.mono (by decide)) (by rfl) (pa_cons (pv 0) (pa_cons (pe_op op_add (pv 1) pe_int) pa_nil))) pa_nil)) (blkOk_by (own := [("k", 2)]) (N := ["draws", "most", "k"]) (sc := defScope s_law_words) (by decide +kernel)) (fun _ _ _ _ _ => (pg_name (i := 2) sc_law_words.nd rfl (.inl rfl))) (fun _ _ _ _ _ => pts_nil) (fun _ _ _ _ _ => (pe_op op_add_str (pe_own O_law_pick (hr.mono (by decide)) (by rfl) (pa_cons (pv 0) (pa_cons pe_str pa_nil))) (pe_own O_law_pick (hr.mono (by decide)) (by rfl) (pa_cons (pv 0) (pa_cons (pe_own0 O_law_flags (hr.mono (by decide)) (by rfl)) pa_nil)))))))), ?_⟩
    refine ⟨.ref D, rfl, .int 3, rfl, 3, 1, rfl, rfl, D, A1, B, n, 4, rfl, dr, by omega, by decide, by decide, fun r H1 r0 r1 d1 k1 => ⟨r, rfl, by omega, by omega, fun C nC => ?_⟩⟩
    have CD := fresh_ne d1 nC
    have CB : C ≠ B := by
      obtain ⟨_, _, ⟨_, eB⟩⟩ := d1.tracked
      exact (ne_of_none eB nC).symm
    refine lc_range (lo := 0) (n := r.toNat) (fun i H2 => ∃ (ls : List (List Nat)) (m : Int), H2 C = some (.lst (strV ls)) ∧ ls.length = i ∧ (∀ l ∈ ls, wordF l = true) ∧ Drw H2 D A1 B m ∧ m ≤ n + 1 + 2 * i ∧ Kept D A1 H1 H2) ⟨[], n + 1, upd_same, rfl, nofun, d1.new nC, by omega, Kept.of (same_new nC)⟩ ?_ ?_
    · rintro i H2 hi ⟨ls, m, eC, hl, hls, d2, hm, k2⟩
      refine ⟨rfl, ?_⟩
      unfold tYes
      show ite (true = true) _ _
      rw [if_pos rfl]
      refine ⟨.ref D, rfl, D, A1, B, .str "+-", m, _, rfl, d2, by omega, .inr ⟨"+-", rfl, by decide +kernel, rfl⟩, by decide +kernel, by decide +kernel, fun i2 v H3 hv d3 k3 => ?_⟩
      obtain ⟨sg, hsg, rfl⟩ := sign_v hv
      refine ⟨.ref D, rfl, rfl, fun H4 p s4 np ep => ?_⟩
      obtain ⟨pD, pA⟩ := fresh_ne d3 np
      refine ⟨D, A1, B, .ref p, m + 1, _, rfl, d3.same s4, by omega, .inl ⟨p, rfl, .inl ep, pD, pA⟩, by show 1 ≤ 8; decide, by show 8 < 1000000; decide, fun i3 v H5 hv5 d5 k5 => ?_⟩
      obtain ⟨f, hf, rfl⟩ := str_mem hv5
      have wo := List.all_eq_true.mp (List.all_eq_true.mp words_ok sg hsg) f hf
      have wl := (wordF_facts wo).2.2.2.2
      have k23 : Kept D A1 H2 H5 := (k3.trans (Kept.of s4)).trans k5
      have e4 := k23 _ _ eC CD.1 CD.2
      rw [List.length_append] at wl
      refine ⟨_, _, rfl, rfl, by rw [mk_len, mk_len]; exact line_of (by omega), _, e4, ?_, ls ++ [sg ++ f], m + 1 + 1, ?_, by rw [List.length_append, hl]; rfl, fun l hl' => ?_, d5.upd CD.1 CD.2 CB, by omega, fun b o e n1 n2 => ?_⟩
      · rw [strV_len]
        exact Nat.lt_of_le_of_lt (show ls.length ≤ 10 by omega) (by decide)
      · rw [upd_same, app_mk, strV_snoc]
      · rcases List.mem_append.mp hl' with h | h
        · exact hls l h
        · rw [List.mem_singleton.mp h]
          exact wo
      · rw [upd_ne (ne_of_none e nC)]
        exact (k2.trans k23) b o e n1 n2
    · rintro H2 ⟨ls, m, eC, hl, hls, d2, hm, k2⟩
      exact k H2 C ls m (by omega) hls (k1.free' d1 nC) eC d2 (by omega) (k1.trans k2)
end

/-! ### words that are odd -/
def ODDW : List (List Nat) := [tl "SKIP", tl "+", tl "-", tl "+skip", tl "+SKIPS", tl "++SKIP", tl "*SKIP", tl "+ELLIPSIS:", tl "+NO", tl "-+SKIP", tl "+SKIP;", tl "#"]
theorem oddw_v : [V.str "SKIP", V.str "+", V.str "-", V.str "+skip", V.str "+SKIPS", V.str "++SKIP", V.str "*SKIP", V.str "+ELLIPSIS:", V.str "+NO", V.str "-+SKIP", V.str "+SKIP;", V.str "#"] = strV ODDW := by decide +kernel
theorem oddw_ok : (ODDW.all wordF) = true := by decide +kernel
def DTW : List (List Nat) := [tl "#", tl "doctest:"]
theorem dtw_v : [V.str "#", V.str "doctest:"] = strV DTW := by decide +kernel
theorem dtw_ok : (DTW.all wordF) = true := by decide +kernel
theorem strV_app (a b : List (List Nat)) : strV a ++ strV b = strV (a ++ b) := by
  unfold strV
  rw [List.map_append, List.map_append]
theorem strV_take (a : List (List Nat)) (n : Nat) : (strV a).take n = strV (a.take n) := by
  unfold strV
  rw [← List.map_take, ← List.map_take]
theorem strV_drop (a : List (List Nat)) (n : Nat) : (strV a).drop n = strV (a.drop n) := by
  unfold strV
  rw [← List.map_drop, ← List.map_drop]
theorem cutV_to (xs : List V) (k : Nat) : cutV xs none (some (k : Int)) = xs.take k := by
  unfold cutV
  rw [HT.sIx_none, HT.sIx_nat, List.drop_zero, Nat.sub_zero]
  by_cases h : k ≤ xs.length
  · rw [Nat.min_eq_left h]
  · rw [Nat.min_eq_right (by omega), List.take_of_length_le (Nat.le_refl _), List.take_of_length_le (by omega)]
theorem cutV_from (xs : List V) (k : Nat) (h : k ≤ xs.length) : cutV xs (some (k : Int)) none = xs.drop k := by
  unfold cutV
  rw [HT.sIx_none, HT.sIx_nat, Nat.min_eq_left h]
  exact List.take_of_length_le (by rw [List.length_drop]; exact Nat.le_refl _)
section
variable {P : Program} {w : World} {K : PySem.W.Frag} {mg : Str → Option Value} {base : Heap}
def sp_law_some_words : Sp := fun vs H Q _ => ∃ (D A B : Addr) (n : Int), vs = [.ref D] ∧ Drw H D A B n ∧ n < 800000 ∧
  ∀ (H' : Hp) (p : Addr) (ws : List (List Nat)) (m : Int), ws.length ≤ 5 → (∀ u ∈ ws, wordF u = true) → H p = none → H' p = some (.lst (strV ws)) → Drw H' D A B m → m ≤ n + 20 → Kept D A H H' → Q (.ref p) H'
theorem ok_law_some_words {f : Addr} {fd : FuncData} {dvs : List V} (F : Fn K "_law_some_words" s_law_some_words dvs f fd) (O_law_words : Own P w K mg base "_law_words" 4 ["draws", "most"] [] (sp_law_words)) (O_law_take : Own P w K mg base "_law_take" 2 ["draws", "size"] [] (sp_law_take)) (O_law_pick : Own P w K mg base "_law_pick" 3 ["draws", "things"] [] (sp_law_pick)) (m_len : mg "len" = none) : FnOk P w K mg base CX0 5 f fd ["draws"] (sp_law_some_words) := by
  refine Fn.okN F sc_law_some_words (fun vs H Q E h => ?_) (fun cdv A outer s H vs Q E hr h => ?_)
  · obtain ⟨_, _, _, _, rfl, _⟩ := h
    rfl
  · obtain ⟨D, A1, B, n, rfl, dr, hn, k⟩ := h
    refine ⟨_, (pss_cons (ps_set (i := 1) sc_law_some_words.nd rfl (.inl rfl) (pe_lst (pa_cons pe_str (pa_cons pe_str (pa_cons pe_str (pa_cons pe_str (pa_cons pe_str (pa_cons pe_str (pa_cons pe_str (pa_cons pe_str (pa_cons pe_str (pa_cons pe_str (pa_cons pe_str (pa_cons pe_str pa_nil))))))))))))))
      (pss_cons (ps_set (i := 2) sc_law_some_words.nd rfl (.inl rfl) (pe_own O_law_words (hr.mono (by decide)) (by rfl) (pa_cons (pv 0) (pa_cons pe_int pa_nil))))
      (pss_cons (ps_par (i := 3) (j := 4) (by rfl) sc_law_some_words.nd rfl rfl (by decide) rfl rfl (pa_cons (pe_own O_law_take (hr.mono (by decide)) (by rfl) (pa_cons (pv 0) (pa_cons (pe_op op_add (pe_callB call_len_seq (by rfl) m_len PySem.boot_len (pa_cons (pv 2) pa_nil)) pe_int) pa_nil))) (pa_cons (pe_own O_law_take (hr.mono (by decide)) (by rfl) (pa_cons (pv 0) (pa_cons pe_int pa_nil))) pa_nil)) (by rfl))
      (pss_cut (ps_if (pt_cmpR op_lt (pv 4) pe_int (nomark _))
          (pss_one (ps_expr (pe_bm PySem.F.plainAttrs_list PySem.F.slot_list_insert PySem.F.type_list_insert mt_insert (pv 2) (pa_cons (pv 3) (pa_cons (pe_own O_law_pick (hr.mono (by decide)) (by rfl) (pa_cons (pv 0) (pa_cons (pv 1) pa_nil))) pa_nil)))))
          pss_nil)
      (pss_one (ps_ret (pe_ifExp (pt_cmpR op_eq (pv 4) pe_int (nomark _)) (pe_op op_cat (pe_op op_cat (pe_slice sl_list (pv 2) po_none (po_some (pv 3))) (pe_lst (pa_cons pe_str (pa_cons pe_str pa_nil)))) (pe_slice sl_list (pv 2) (po_some (pv 3)) po_none)) (pv 2)))))))), ?_⟩
    refine ⟨by show 12 ≤ sizeLine; decide, fun O nO => ?_⟩
    rw [oddw_v]
    generalize g1 : upd H O _ = H1
    obtain ⟨s1, eO⟩ := laid g1 nO
    obtain ⟨OD, OA⟩ := fresh_ne dr nO
    refine ⟨.ref D, rfl, D, A1, B, n, rfl, dr.same s1, by omega, fun H2 p ws m lw hws np ep d2 hm k2 => ?_⟩
    obtain ⟨pD, pA⟩ := fresh_ne (dr.same s1) np
    have eO2 := k2 _ _ eO OD OA
    refine ⟨.ref D, rfl, .ref p, rfl, p, _, rfl, .inl (SqL.of ep), _, _, rfl, rfl, D, A1, B, m, _, rfl, d2, by omega, by rw [strV_len]; omega, by rw [strV_len]; omega, fun at_ H3 t0 t1 d3 k3 => ?_⟩
    rw [strV_len] at t1
    have ep3 := k3 _ _ ep pD pA
    refine ⟨.ref D, rfl, D, A1, B, m + 1, 8, rfl, d3, by omega, by decide, by decide, fun way H4 w0 w1 d4 k4 => ⟨_, _, rfl, ?_⟩⟩
    have ep4 := k4 _ _ ep3 pD pA
    have eO4 := k4 _ _ (k3 _ _ eO2 OD OA) OD OA
    have k04 : Kept D A1 H H4 := ((Kept.fresh s1 k2).trans k3).trans k4
    obtain ⟨j, rfl⟩ : ∃ j : Nat, at_ = (j : Int) := ⟨at_.toNat, by omega⟩
    have npH : H p = none := s1.free np
    have pB : p ≠ B := by
      obtain ⟨_, _, ⟨_, eB⟩⟩ := (dr.same s1).tracked
      exact (ne_of_none eB np).symm
    refine ⟨fun σ H5 => ∃ (us : List (List Nat)) (m5 : Int), σ = [some (.ref D), some (.ref O), some (.ref p), some (.int (j : Int)), some (.int way)] ∧ H5 p = some (.lst (strV us)) ∧ (way < 2 → us.length ≤ 4) ∧ (¬ way < 2 → us = ws) ∧ (∀ u ∈ us, wordF u = true) ∧ Drw H5 D A1 B m5 ∧ m5 ≤ m + 3 ∧ Kept D A1 H H5, ?_, ?_⟩
    · by_cases hw2 : way < 2
      · refine ⟨_, rfl, _, _, rfl, rfl, true, congrArg V.bl (decide_eq_true hw2), iteT ?_⟩
        obtain ⟨OpD, OpA⟩ : O ≠ D ∧ O ≠ A1 := ⟨OD, OA⟩
        refine ⟨.ref p, rfl, .inl ⟨rfl, _, SqL.of ep4⟩, _, rfl, .ref D, rfl, .ref O, rfl, D, A1, B, .ref O, m + 1 + 1, _, rfl, d4, by omega, .inl ⟨O, rfl, .inl eO4, OD, OA⟩, by show 1 ≤ 12; decide, by show 12 < 1000000; decide, fun i2 v H5 hv d5 k5 => ?_⟩
        obtain ⟨o, ho, rfl⟩ := str_mem hv
        have ep5 := k5 _ _ ep4 pD pA
        refine ⟨p, _, _, _, rfl, rfl, ep5, ?_, by omega, ?_, ws.take j ++ [o] ++ ws.drop j, m + 1 + 1 + 1, rfl, ?_, fun _ => ?_, fun z => absurd hw2 z, fun u hu => ?_, d5.upd pD pA pB, by omega, fun b o e n1 n2 => ?_⟩
        · rw [strV_len]
          exact Nat.lt_of_le_of_lt (show ws.length ≤ 10 by omega) (by decide)
        · exact Int.lt_of_le_of_lt (show (j : Int) ≤ 10 by omega) (by decide)
        · rw [upd_same, show ((j : Int)).toNat = j from rfl, strV_take, strV_drop, strV_snoc, strV_app]
        · rw [List.length_append, List.length_append, List.length_take, List.length_drop]
          show min j ws.length + 1 + _ ≤ _
          omega
        · rcases List.mem_append.mp hu with h | h
          · rcases List.mem_append.mp h with h | h
            · exact hws u (List.mem_of_mem_take h)
            · rw [List.mem_singleton.mp h]
              exact List.all_eq_true.mp oddw_ok o ho
          · exact hws u (List.mem_of_mem_drop h)
        · rw [upd_ne (ne_of_none e npH)]
          exact (k04.trans k5) b o e n1 n2
      · refine ⟨_, rfl, _, _, rfl, rfl, false, congrArg V.bl (decide_eq_false hw2), iteF ⟨ws, m + 1 + 1, rfl, ep4, fun z => absurd z hw2, fun _ => rfl, hws, d4, by omega, k04⟩⟩
    · rintro σ H5 ⟨us, m5, rfl, ep5, h1, h2, hus, d5, hm5, k05⟩
      by_cases hw2 : way = 2
      · refine ⟨_, rfl, rfl, true, congrArg V.bl (decide_eq_true (by rw [hw2])), iteT ?_⟩
        have eus : us = ws := h2 (by omega)
        subst eus
        refine ⟨.ref p, rfl, .int j, rfl, (j : Int), rfl, p, _, rfl, SqL.of ep5, fun L1 n1 => ?_⟩
        rw [cutV_to, strV_take]
        generalize g2 : upd H5 L1 _ = H6
        obtain ⟨s6, e6⟩ := laid g2 n1
        refine ⟨by show 2 ≤ sizeLine; decide, fun L2 n2 => ?_⟩
        rw [dtw_v]
        generalize g3 : upd H6 L2 _ = H7
        obtain ⟨s7, e7⟩ := laid g3 n2
        refine ⟨L1, L2, _, _, rfl, rfl, s7 _ _ e6, e7, ?_, fun L3 n3 => ?_⟩
        · rw [strV_len, strV_len, List.length_take]
          exact Nat.le_trans (show min j us.length + 2 ≤ 100 by omega) (by decide)
        rw [strV_app]
        generalize g4 : upd H7 L3 _ = H8
        obtain ⟨s8, e8⟩ := laid g4 n3
        refine ⟨.ref p, rfl, .int j, rfl, (j : Int), rfl, p, _, rfl, SqL.of (s8 _ _ (s7 _ _ (s6 _ _ ep5))), fun L4 n4 => ?_⟩
        rw [cutV_from _ _ (by rw [strV_len]; omega), strV_drop]
        generalize g5 : upd H8 L4 _ = H9
        obtain ⟨s9, e9⟩ := laid g5 n4
        refine ⟨L3, L4, _, _, rfl, rfl, s9 _ _ e8, e9, ?_, fun L5 n5 => ?_⟩
        · rw [strV_len, strV_len, List.length_append, List.length_take, List.length_drop]
          exact Nat.le_trans (show min j us.length + 2 + (us.length - j) ≤ 100 by omega) (by decide)
        rw [strV_app]
        have sA : Same H5 H9 := s6.trans (s7.trans (s8.trans s9))
        have kA := k05.trans (Kept.of sA)
        have sL := same_new (o := .lst (strV (us.take j ++ DTW ++ us.drop j))) n5
        refine k _ L5 (us.take j ++ DTW ++ us.drop j) m5 ?_ (fun u hu => ?_) (kA.free' (d5.same sA) n5) upd_same ((d5.same sA).same sL) (by omega) (kA.trans (Kept.of sL))
        · rw [List.length_append, List.length_append, List.length_take, List.length_drop]
          show min j us.length + 2 + _ ≤ _
          omega
        · rcases List.mem_append.mp hu with h | h
          · rcases List.mem_append.mp h with h | h
            · exact hus u (List.mem_of_mem_take h)
            · exact List.all_eq_true.mp dtw_ok u h
          · exact hus u (List.mem_of_mem_drop h)
      · refine ⟨_, rfl, rfl, false, congrArg V.bl (decide_eq_false fun z => hw2 (V.int.inj z)), iteF ⟨.ref p, rfl, k H5 p us m5 ?_ hus npH ep5 d5 (by omega) k05⟩⟩
        by_cases h : way < 2
        · have := h1 h
          omega
        · rw [h2 h]
          omega
end

/-! ### what is wrong of some words -/
def faultW (c : Bool) (x : Str) (ws : List (List Nat)) : Option (Str × Str) := match (ws.map mk).find? fun w => !okW w with
  | some w => some ("option", w)
  | none => if (c && !ws.isEmpty) = true then some ("no example", x) else none
def FltAt (H : Hp) (v : V) : Option (Str × Str) → Prop
  | none => v = .non
  | some rf => ∃ T, v = .ref T ∧ H T = some (.tup [.str rf.1, .str rf.2])
theorem flags_perm : (v_FLAGS).Perm (FL.map mk) := by decide +kernel
theorem has_flags (x : Str) : inV (.str x) (strV FL) = has x v_FLAGS := by
  unfold strV
  rw [inV_str]
  unfold has
  rw [Bool.eq_iff_iff, List.any_eq_true, List.any_eq_true]
  exact ⟨fun ⟨y, h1, h2⟩ => ⟨y, flags_perm.mem_iff.mpr h1, h2⟩, fun ⟨y, h1, h2⟩ => ⟨y, flags_perm.mem_iff.mp h1, h2⟩⟩
theorem fault_at {c : Bool} {x : Str} {ws : List (List Nat)} {j : Nat} {u : List Nat} (h : ws[j]? = some u) (ok : ∀ v ∈ ws.take j, okW (mk v) = true) (bad : okW (mk u) = false) : faultW c x ws = some (("option" : Str), mk u) := by
  have hj : j < ws.length := (List.getElem?_eq_some_iff.mp h).1
  have e : ws = ws.take j ++ (u :: ws.drop (j + 1)) := by
    have : ws.drop j = u :: ws.drop (j + 1) := by
      rw [List.drop_eq_getElem_cons hj, (List.getElem?_eq_some_iff.mp h).2]
    rw [← this, List.take_append_drop]
  have key : (ws.map mk).find? (fun w => !okW w) = some (mk u) := by
    rw [e, List.map_append, List.find?_append, List.find?_eq_none.mpr (fun z hz => by
      obtain ⟨v, hv, rfl⟩ := List.mem_map.mp hz
      rw [ok v hv]
      decide), Option.none_or, List.map_cons, List.find?_cons_of_pos (by rw [bad]; rfl)]
  unfold faultW
  rw [key]
theorem fault_none {c : Bool} {x : Str} {ws : List (List Nat)} (ok : ∀ v ∈ ws, okW (mk v) = true) : faultW c x ws = if (c && !ws.isEmpty) = true then some (("no example" : Str), x) else none := by
  have key : (ws.map mk).find? (fun w => !okW w) = none := List.find?_eq_none.mpr fun z hz => by
    obtain ⟨v, hv, rfl⟩ := List.mem_map.mp hz
    rw [ok v hv]
    decide
  unfold faultW
  rw [key]
section
variable {P : Program} {w : World} {K : PySem.W.Frag} {mg : Str → Option Value} {base : Heap}
def sp_law_fault : Sp := fun vs H Q _ => ∃ (p : Addr) (ws : List (List Nat)) (c : Bool) (x : Str), vs = [.ref p, .bl c, .str x] ∧ H p = some (.lst (strV ws)) ∧ ws.length ≤ 100 ∧ (∀ u ∈ ws, u.length ≤ 100) ∧
  ∀ (H' : Hp) (v : V), Same H H' → FltAt H' v (faultW c x ws) → Q v H'
theorem ok_law_fault {f : Addr} {fd : FuncData} {dvs : List V} (F : Fn K "_law_fault" s_law_fault dvs f fd) (O_law_flags : Own P w K mg base "_law_flags" 1 [] [] (sp_law_flags)) : FnOk P w K mg base CX0 2 f fd ["words", "is_comment", "source"] (sp_law_fault) := by
  refine Fn.okN F sc_law_fault (fun vs H Q E h => ?_) (fun cdv A outer s H vs Q E hr h => ?_)
  · obtain ⟨_, _, _, _, rfl, _⟩ := h
    rfl
  · obtain ⟨p, ws, c, x, rfl, hp, hl, hw, k⟩ := h
    refine ⟨_, (pss_cons (ps_for PassesOwn.never rfl (pi_list (pv 0)) (pg_name (i := 3) sc_law_fault.nd rfl (.inl rfl))
          (pss_one (ps_if (PW.pt (pw_or (pt_cmpR op_notIn_seq (pe_slice sl_str (pv 3) po_none (po_some pe_int)) (pe_tup (pa_cons pe_str (pa_cons pe_str pa_nil))) rfl) (pw_or1 (pt_cmpR op_notIn_seq (pe_slice sl_str (pv 3) (po_some pe_int) po_none) (pe_own0 O_law_flags (hr.mono (by decide)) (by rfl)) rfl))))
                (pss_one (ps_ret (pe_tup (pa_cons pe_str (pa_cons (pv 3) pa_nil)))))
                pss_nil)))
      (pss_one (ps_ret (pe_ifExp (PW.pt (pw_and (pt_val (pv 1)) (pw_and1 (pt_cmpR (op_neE hr.units) (pv 0) (pe_lst pa_nil) (nomark _))))) (pe_tup (pa_cons pe_str (pa_cons (pv 2) pa_nil))) pe_non)))), ?_⟩
    refine ⟨.ref p, rfl, p, rfl, ⟨_, SqL.of hp⟩, for_list (K := K) (a := p) (xs := strV ws) (fun j σ H2 => ∃ v3 : Option V, σ = [some (.ref p), some (.bl c), some (.str x), v3] ∧ Same H H2 ∧ ∀ u ∈ ws.take j, okW (mk u) = true) ⟨_, rfl, fun _ _ e => e, nofun⟩ (fun j σ H2 _ h => by
      obtain ⟨_, _, s, _⟩ := h
      exact SqL.of (s _ _ hp)) ?_ ?_⟩
    · rintro j v σ H2 hv ⟨v3, rfl, s2, ok2⟩
      have hju : ∃ u, ws[j]? = some u ∧ v = .str (mk u) := by
        unfold strV at hv
        rw [List.getElem?_map, List.getElem?_map] at hv
        obtain ⟨z, hz, rfl⟩ := Option.map_eq_some_iff.mp hv
        obtain ⟨u, hu, rfl⟩ := Option.map_eq_some_iff.mp hz
        exact ⟨u, hu, rfl⟩
      obtain ⟨u, hu, rfl⟩ := hju
      have hul := hw u (List.mem_of_getElem? hu)
      have htk : ws.take (j + 1) = ws.take j ++ [u] := by rw [List.take_add_one, hu]; rfl
      have zu : (mk u).length ≤ sizeLine := by rw [mk_len]; exact line_of (by omega)
      refine ⟨.str (mk u), rfl, 1, rfl, mk u, rfl, zu, by show 2 ≤ sizeLine; decide, fun T nT => ?_⟩
      generalize g1 : upd H2 T _ = H3
      obtain ⟨s3, e3⟩ := laid g1 nT
      refine ⟨T, _, rfl, .inr (SqT.of e3), rfl, rfl, _, rfl, ?_⟩
      show ite ((!inV (.str (cutS (mk u) none (some 1))) [.str "+", .str "-"]) = true) _ _
      have bad : ∀ H4 : Hp, Same H H4 → okW (mk u) = false → 2 ≤ sizeLine ∧ ∀ T2, H4 T2 = none → Q (.ref T2) (upd H4 T2 (.tup [.str "option", .str (mk u)])) := fun H4 s4 hb => ⟨by show 2 ≤ sizeLine; decide, fun T2 n2 => k _ _ (s4.trans (same_new n2)) (by rw [fault_at hu ok2 hb]; exact ⟨T2, rfl, upd_same⟩)⟩
      cases hc : inV (.str (cutS (mk u) none (some 1))) [.str "+", .str "-"] with
      | false => exact iteT (iteT ⟨.str (mk u), rfl, bad H3 (s2.trans s3) (by unfold okW; rw [hc]; rfl)⟩)
      | true =>
        refine iteF ⟨.str (mk u), rfl, 1, rfl, mk u, rfl, zu, rfl, fun H4 q s4 nq eq4 => ⟨q, _, rfl, .inl (SqL.of eq4), rfl, by decide +kernel, _, rfl, ?_⟩⟩
        show ite ((!inV (.str (cutS (mk u) (some 1) none)) (strV FL)) = true) _ _
        rw [has_flags]
        cases hf : has (cutS (mk u) (some 1) none) v_FLAGS with
        | false => exact iteT ⟨.str (mk u), rfl, bad H4 ((s2.trans s3).trans s4) (by unfold okW; rw [hc, hf]; rfl)⟩
        | true =>
          refine iteF ⟨_, rfl, (s2.trans s3).trans s4, fun v hv => ?_⟩
          rw [htk] at hv
          rcases List.mem_append.mp hv with h | h
          · exact ok2 v h
          · rw [List.mem_singleton.mp h]
            unfold okW
            rw [hc, hf]
            rfl
    · rintro σ H2 ⟨v3, rfl, s2, ok2⟩
      rw [strV_len, List.take_length] at ok2
      have e0 := fault_none (c := c) (x := x) ok2
      cases c with
      | false =>
        refine ⟨_, rfl, false, rfl, iteF (iteF ?_)⟩
        exact k H2 .non s2 (by rw [e0]; rfl)
      | true =>
        refine ⟨_, rfl, true, rfl, iteT ⟨.ref p, rfl, by show 0 ≤ sizeLine; decide, fun L nL => ?_⟩⟩
        have sL := same_new (o := .lst []) nL
        refine ⟨p, L, _, rfl, rfl, SqL.of (sL _ _ (s2 _ _ hp)), SqL.of upd_same, _, rfl, ?_⟩
        cases ws with
        | nil => exact iteF (k _ .non (s2.trans sL) (by rw [e0]; rfl))
        | cons u r => exact iteT ⟨.str x, rfl, by show 2 ≤ sizeLine; decide, fun T nT => k _ _ ((s2.trans sL).trans (same_new nT)) (by rw [e0]; exact ⟨T, rfl, upd_same⟩)⟩
end

/-! ### texts of parts, wrong ones among them -/
def ZSc (c : Bool) : List (List Nat) := if c = true then [[], tl "# c"] else [[120], [121]]
def gz (z : List Nat) : List Nat := if z = [] then [] else [32]
theorem zs_ok : ∀ c, ((ZSc c).all fun z => (okc z && decide (z.length ≤ 3)) && (decide (dwL z = []) && (decide (z = []) || decide (remL z = c)))) = true := by decide +kernel
structure LnF (l : List Nat) (ws : List (List Nat)) : Prop where
  ok : okc l = true
  len : l.length ≤ 190
  wd : dwL l = ws.map mk
theorem scan_z {c : Bool} {z : List Nat} (hz : z ∈ ZSc c) (r : List Nat) : scanL (z ++ gz z ++ r) = scanL r := by
  cases c with
  | true =>
    rcases List.mem_cons.mp (show z ∈ [[], tl "# c"] from hz) with rfl | h
    · rfl
    · rw [List.mem_singleton.mp h]
      rfl
  | false =>
    rcases List.mem_cons.mp (show z ∈ [[120], [121]] from hz) with rfl | h
    · rfl
    · rw [List.mem_singleton.mp h]
      rfl
theorem line_bare {c : Bool} {z : List Nat} (hz : z ∈ ZSc c) : LnF z [] := by
  have := List.all_eq_true.mp (zs_ok c) z hz
  rw [Bool.and_eq_true, Bool.and_eq_true, Bool.and_eq_true, decide_eq_true_eq, decide_eq_true_eq] at this
  exact ⟨this.1.1, by omega, this.2.1⟩
theorem gz_ok (z : List Nat) : okc (gz z) = true ∧ (gz z).length ≤ 1 := by
  unfold gz
  split <;> decide
theorem line_dir {c : Bool} {z b : List Nat} {w : List Nat × List Nat} {ws : List (List Nat)} (hz : z ∈ ZSc c) (hw : w ∈ WAYS) (d : Dr b ws) (lb : b.length ≤ 150) : LnF (z ++ gz z ++ w.1 ++ (w.2 ++ b)) ws := by
  have wo := List.all_eq_true.mp way_ok w hw
  rw [Bool.and_eq_true, Bool.and_eq_true, decide_eq_true_eq] at wo
  obtain ⟨w1, w2, w3, w4, w5⟩ := wo
  have z1 := List.all_eq_true.mp (zs_ok c) z hz
  rw [Bool.and_eq_true, Bool.and_eq_true, decide_eq_true_eq] at z1
  have g1 := gz_ok z
  have hoz : okc (z ++ gz z ++ w.1 ++ (w.2 ++ b)) = true := okc_app (okc_app (okc_app z1.1.1 g1.1) (fine_okc w1)) (okc_app (fine_okc w2) (fine_okc d.fn))
  have noq : ∀ l : List Nat, l.all fine = true → ∀ c ∈ l, isQ c = false := fun l hl c hc => by
    have := List.all_eq_true.mp hl c hc
    unfold fine at this
    rw [Bool.and_eq_true, Bool.and_eq_true, Bool.not_eq_true'] at this
    exact this.2.2
  have zq : ∀ c', ((ZSc c').all fun z => (z ++ gz z).all fun q => !isQ q) = true := by decide +kernel
  have ed : dirS (mk (z ++ gz z ++ w.1 ++ (w.2 ++ b))) = mk (w.2 ++ b) := by
    have e1 : z ++ gz z ++ w.1 ++ (w.2 ++ b) = [] ++ (z ++ gz z ++ (w.1 ++ (w.2 ++ b))) := by simp
    rw [e1, dirS_of (fun q hq => ?_) (.inl rfl), scan_z hz, scan_way w hw]
    rcases List.mem_append.mp hq with h | h
    · have := List.all_eq_true.mp (List.all_eq_true.mp (zq c) z hz) q h
      rw [Bool.not_eq_true'] at this
      exact this
    · rcases List.mem_append.mp h with h | h
      · exact noq _ w1 _ h
      · rcases List.mem_append.mp h with h | h
        · exact noq _ w2 _ h
        · exact noq _ d.fn _ h
  refine ⟨hoz, ?_, ?_⟩
  · rw [List.length_append, List.length_append, List.length_append, List.length_append]
    omega
  · obtain ⟨Pc, n, e, hP⟩ := way_col w hw
    refine dwS_of (P := Pc) (R := sps n ++ b) ?_ hP ?_
    · rw [ed, e, List.append_assoc]
      rfl
    · rw [cm_app, cm_no (by
        intro h
        have := List.eq_of_mem_replicate h
        cases this)]
      exact d.wd.lead n
theorem rem_at {c : Nat} (r : List Nat) (h : (c == 32 || c == 9) = false) : remL (c :: r) = (c == 35) := by
  have e0 : (" \t" : Str) = ⟨#[32, 9]⟩ := ext_tl (by decide +kernel)
  have e1 : ("#" : Str) = ⟨[35].toArray⟩ := ext_tl (by decide +kernel)
  have hb : isBlank (c :: r) = false := by
    unfold isBlank
    rw [List.all_cons, h, Bool.false_and]
  have e4 : (#[32, 9] : Array Nat).contains = fun c => c == 32 || c == 9 := by
    funext c
    rw [Bool.eq_iff_iff, Array.contains_iff_mem, Bool.or_eq_true, beq_iff_eq, beq_iff_eq]
    simp
  unfold remL
  rw [hb, Bool.false_or, e1, starts_pre _ (by simp), e0]
  unfold Txt.lstripChars
  rw [e4, lstrip_tl]
  show pre [35] ((c :: r).drop ((c :: r).takeWhile fun c => c == 32 || c == 9).length) = _
  rw [List.takeWhile_cons, h, if_neg Bool.false_ne_true]
  show pre [35] (c :: r) = _
  simp [pre, eq_comm]
theorem way_first : ∀ w ∈ WAYS, ∀ b, ∃ r, w.1 ++ (w.2 ++ b) = 35 :: r := by
  intro w hw b
  unfold WAYS at hw
  simp only [List.mem_cons, List.not_mem_nil, or_false] at hw
  rcases hw with rfl | rfl | rfl | rfl | rfl | rfl | rfl <;> exact ⟨_, rfl⟩
/-- a line with a directive is a remark where its beginning says so -/
theorem rem_dir {c : Bool} {z b : List Nat} {w : List Nat × List Nat} (hz : z ∈ ZSc c) (hw : w ∈ WAYS) : remL (z ++ gz z ++ w.1 ++ (w.2 ++ b)) = c := by
  obtain ⟨r, er⟩ := way_first w hw b
  rw [List.append_assoc, er]
  cases c with
  | true =>
    rcases List.mem_cons.mp (show z ∈ [[], tl "# c"] from hz) with rfl | h
    · exact rem_at r rfl
    · rw [List.mem_singleton.mp h]
      exact rem_at _ rfl
  | false =>
    rcases List.mem_cons.mp (show z ∈ [[120], [121]] from hz) with rfl | h
    · exact rem_at _ rfl
    · rw [List.mem_singleton.mp h]
      exact rem_at _ rfl
theorem rem_bare {c : Bool} {z : List Nat} (hz : z ∈ ZSc c) : remL z = c := by
  cases c with
  | true =>
    rcases List.mem_cons.mp (show z ∈ [[], tl "# c"] from hz) with rfl | h
    · decide +kernel
    · rw [List.mem_singleton.mp h]
      decide +kernel
  | false =>
    rcases List.mem_cons.mp (show z ∈ [[120], [121]] from hz) with rfl | h
    · decide +kernel
    · rw [List.mem_singleton.mp h]
      decide +kernel
/-- a part: its indent, whether it is a comment, its source lines with their words, how many expected lines -/
abbrev Prt := Nat × Bool × List (List Nat × List (List Nat)) × Nat
def Prt.lns (x : Prt) : List (List Nat) := x.2.2.1.map (·.1)
def Prt.wds (x : Prt) : List (List Nat) := (x.2.2.1.map (·.2)).flatten
structure PrtOk (x : Prt) : Prop where
  ind : x.1 = 0 ∨ x.1 = 3
  ne : x.2.2.1 ≠ []
  few : x.2.2.1.length ≤ 2
  ln : ∀ y ∈ x.2.2.1, LnF y.1 y.2
  rem : ∀ y ∈ x.2.2.1, remL y.1 = x.2.1
  one : x.2.2.2 ≤ 1
def exN (x : Prt) : NP := .ex x.2.1 x.1 (x.lns.map fun l => (l, 32 :: l)) (List.replicate x.2.2.2 [49])
theorem exN_lns (x : Prt) : (x.lns.map fun l => (l, 32 :: l)).map (·.1) = x.lns := by
  rw [List.map_map]
  exact List.map_id _
theorem lns_rem {x : Prt} (h : PrtOk x) : x.lns.all remL = x.2.1 := by
  cases hc : x.2.1 with
  | true =>
    rw [List.all_eq_true]
    intro l hl
    obtain ⟨y, hy, rfl⟩ := List.mem_map.mp hl
    rw [h.rem y hy, hc]
  | false =>
    rw [← Bool.not_eq_true, List.all_eq_true]
    intro z
    cases hs : x.2.2.1 with
    | nil => exact h.ne hs
    | cons y r =>
      have hy : y ∈ x.2.2.1 := by rw [hs]; exact List.mem_cons_self ..
      have := z y.1 (List.mem_map.mpr ⟨y, hy, rfl⟩)
      rw [h.rem y hy, hc] at this
      cases this
theorem exN_ok {x : Prt} (h : PrtOk x) : (exN x).Ok := by
  refine ⟨fun z => ?_, fun p hp => ?_, ?_, fun l hl => ?_, fun l r e => ?_⟩
  · rw [List.map_eq_nil_iff] at z
    exact h.ne (List.map_eq_nil_iff.mp z)
  · obtain ⟨l, _, rfl⟩ := List.mem_map.mp hp
    exact ⟨.inl rfl, trivial⟩
  · rw [exN_lns]
    exact lns_rem h
  · rw [List.eq_of_mem_replicate hl]
    decide +kernel
  · have hl : l ∈ List.replicate x.2.2.2 [49] := by rw [e]; exact List.mem_cons_self ..
    rw [List.eq_of_mem_replicate hl]
    decide +kernel
def exsN : List Prt → List NP
  | [] => []
  | [x] => [exN x]
  | x :: y :: r => exN x :: NP.txt [[]] :: exsN (y :: r)
def TOP : List (List Nat) := [tl "top", []]
def NS (es : List Prt) : List NP := if es.isEmpty = true then [NP.txt [tl "top"]] else NP.txt TOP :: exsN es
/-- the lines of the text -/
def LS (es : List Prt) : List (List Nat) := TOP ++ (es.map fun x => (exN x).rows ++ [[]]).flatten
theorem exsN_rows : ∀ es : List Prt, es ≠ [] → rowsAll (exsN es) ++ [[]] = (es.map fun x => (exN x).rows ++ [[]]).flatten
  | [], h => absurd rfl h
  | [x], _ => by
    show (exN x).rows ++ [] ++ [[]] = (exN x).rows ++ [[]] ++ []
    rw [List.append_nil, List.append_nil]
  | x :: y :: r, _ => by
    have ih := exsN_rows (y :: r) (by simp)
    show (exN x).rows ++ ([[]] ++ rowsAll (exsN (y :: r))) ++ [[]] = (exN x).rows ++ [[]] ++ _
    rw [List.append_assoc, List.append_assoc, ih, ← List.append_assoc]
theorem NS_rows (es : List Prt) : rowsAll (NS es) ++ [[]] = LS es := by
  cases es with
  | nil => rfl
  | cons x r =>
    have e : NS (x :: r) = NP.txt TOP :: exsN (x :: r) := rfl
    rw [e, rowsAll_cons, List.append_assoc, exsN_rows _ (by simp)]
    rfl
theorem bg_nil : bg (mk []) ">>>" = false := by decide +kernel
theorem bg_top : bg (mk (tl "top")) ">>>" = false := by decide +kernel
theorem exsN_seq : ∀ {es : List Prt}, (∀ x ∈ es, PrtOk x) → SeqOk (exsN es) ∧ ∀ q r, exsN es = q :: r → q.First ∧ q.isTxt = false
  | [], _ => ⟨trivial, nofun⟩
  | [x], h => ⟨⟨exN_ok (h x (List.mem_cons_self ..)), nofun, trivial⟩, fun q r e => by
    obtain ⟨rfl, _⟩ := List.cons.inj (show [exN x] = q :: r from e)
    exact ⟨trivial, rfl⟩⟩
  | x :: y :: r, h => by
    obtain ⟨i1, i2⟩ := exsN_seq (es := y :: r) fun z hz => h z (List.mem_cons_of_mem _ hz)
    refine ⟨⟨exN_ok (h x (List.mem_cons_self ..)), fun q r' e => ?_, ⟨⟨List.cons_ne_nil _ _, fun l hl => ?_⟩, fun q r' e => ?_, i1⟩⟩, fun q r' e => ?_⟩
    · obtain ⟨rfl, _⟩ := List.cons.inj e
      exact ⟨⟨[], [], rfl, rfl⟩, fun z => by cases z⟩
    · rw [List.mem_singleton.mp hl]
      exact bg_nil
    · have := i2 q r' e
      exact ⟨this.1, fun _ => this.2⟩
    · obtain ⟨rfl, _⟩ := List.cons.inj (show exN x :: _ = q :: r' from e)
      exact ⟨trivial, rfl⟩
theorem NS_seq {es : List Prt} (h : ∀ x ∈ es, PrtOk x) : SeqOk (NS es) := by
  cases es with
  | nil => exact ⟨⟨List.cons_ne_nil _ _, fun l hl => by rw [List.mem_singleton.mp hl]; exact bg_top⟩, nofun, trivial⟩
  | cons x r =>
    have e : NS (x :: r) = NP.txt TOP :: exsN (x :: r) := rfl
    obtain ⟨i1, i2⟩ := exsN_seq h
    rw [e]
    refine ⟨⟨List.cons_ne_nil _ _, fun l hl => ?_⟩, fun q r' e => ?_, i1⟩
    · rcases List.mem_cons.mp hl with rfl | hl
      · exact bg_top
      · rw [List.mem_singleton.mp hl]
        exact bg_nil
    · have := i2 q r' e
      exact ⟨this.1, fun _ => this.2⟩

theorem rows_len (x : Prt) : (exN x).rows.length = x.2.2.1.length + x.2.2.2 := by
  show (srows _ _ ++ _).length = _
  rw [List.length_append, srows_len, List.length_map, List.length_map, List.length_replicate]
  unfold Prt.lns
  rw [List.length_map]
theorem okc_sps (n : Nat) : okc (sps n) = true := by
  unfold okc
  rw [List.all_eq_true]
  intro c hc
  rw [List.eq_of_mem_replicate hc]
  rfl
theorem rows_sz {x : Prt} (h : PrtOk x) : ∀ r ∈ (exN x).rows, okc r = true ∧ r.length ≤ 200 := by
  intro r hr
  have hi : x.1 ≤ 3 := by rcases h.ind with e | e <;> omega
  have key : ∀ (P b : List Nat), okc P = true → P.length = 3 → okc b = true → b.length ≤ 191 → okc (srow x.1 P b) = true ∧ (srow x.1 P b).length ≤ 200 := fun P b hP lP hb lb => by
    refine ⟨okc_app (okc_sps _) (okc_app hP hb), ?_⟩
    unfold srow
    rw [List.length_append, List.length_append, lP]
    have : (sps x.1).length = x.1 := List.length_replicate
    omega
  rcases List.mem_append.mp (show r ∈ srows x.1 (x.lns.map fun l => (l, 32 :: l)) ++ (List.replicate x.2.2.2 [49]).map (sps x.1 ++ ·) from hr) with hr | hr
  · obtain ⟨j, hj⟩ := List.getElem?_of_mem hr
    obtain ⟨p, hp, rfl⟩ := srows_get x.1 hj
    obtain ⟨l, hl, rfl⟩ := List.mem_map.mp hp
    obtain ⟨y, hy, rfl⟩ := List.mem_map.mp hl
    have ly := h.ln y hy
    refine key _ _ (by split <;> decide) (by split <;> rfl) ?_ ?_
    · show okc ([32] ++ y.1) = true
      exact okc_app rfl ly.ok
    · have := ly.len
      show y.1.length + 1 ≤ 191
      omega
  · obtain ⟨l, hl, rfl⟩ := List.mem_map.mp hr
    rw [List.eq_of_mem_replicate hl]
    refine ⟨okc_app (okc_sps _) rfl, ?_⟩
    rw [List.length_append]
    have : (sps x.1).length = x.1 := List.length_replicate
    show _ + 1 ≤ _
    omega
theorem LS_sz {es : List Prt} (h : ∀ x ∈ es, PrtOk x) : (∀ r ∈ LS es, okc r = true ∧ r.length ≤ 200) ∧ (LS es).length ≤ 2 + 4 * es.length := by
  constructor
  · intro r hr
    rcases List.mem_append.mp hr with hr | hr
    · rcases List.mem_cons.mp hr with rfl | hr
      · exact ⟨by decide +kernel, by decide⟩
      · rw [List.mem_singleton.mp hr]
        exact ⟨rfl, by decide⟩
    · obtain ⟨L, hL, hr⟩ := List.mem_flatten.mp hr
      obtain ⟨x, hx, rfl⟩ := List.mem_map.mp hL
      rcases List.mem_append.mp hr with hr | hr
      · exact rows_sz (h x hx) r hr
      · rw [List.mem_singleton.mp hr]
        exact ⟨rfl, by decide⟩
  · unfold LS
    rw [List.length_append]
    have key : ∀ xs : List Prt, (∀ x ∈ xs, PrtOk x) → (xs.map fun x => (exN x).rows ++ [[]]).flatten.length ≤ 4 * xs.length := fun xs => by
      induction xs with
      | nil => exact fun _ => Nat.zero_le _
      | cons x r ih =>
        intro hx
        have i1 := ih fun y hy => hx y (List.mem_cons_of_mem _ hy)
        have i2 := (hx x (List.mem_cons_self ..)).few
        have i3 := (hx x (List.mem_cons_self ..)).one
        rw [List.map_cons, List.flatten_cons, List.length_append, List.length_append, rows_len]
        have i4 : (x :: r).length = r.length + 1 := rfl
        show _ + 1 + _ ≤ _
        omega
    have := key es h
    show 2 + _ ≤ _
    omega
theorem LS_snoc (es : List Prt) (x : Prt) : LS (es ++ [x]) = LS es ++ ((exN x).rows ++ [[]]) := by
  unfold LS
  rw [List.map_append, List.flatten_append, ← List.append_assoc]
  show _ ++ ((exN x).rows ++ [[]] ++ []) = _
  rw [List.append_nil]
/-- the first wrong part, the lines ahead counted -/
def badL (o : Nat) : List Prt → Option (Int × Str × Str)
  | [] => none
  | x :: r => match badP x.lns with
    | some rf => some ((o : Int) + 1, rf.1, rf.2)
    | none => badL (o + ((exN x).rows.length + 1)) r
theorem badL_snoc : ∀ (es : List Prt) (o : Nat) (x : Prt), badL o (es ++ [x]) = match badL o es with
    | some f => some f
    | none => match badP x.lns with
      | some rf => some (((o + (es.map fun x => (exN x).rows ++ [[]]).flatten.length : Nat) : Int) + 1, rf.1, rf.2)
      | none => none
  | [], o, x => by
    show (match badP x.lns with | some rf => _ | none => badL _ []) = _
    cases badP x.lns <;> rfl
  | y :: r, o, x => by
    have ih := badL_snoc r (o + ((exN y).rows.length + 1)) x
    show (match badP y.lns with | some rf => _ | none => badL _ (r ++ [x])) = match (match badP y.lns with | some rf => _ | none => badL _ r) with | some f => _ | none => _
    cases badP y.lns with
    | some rf => rfl
    | none =>
      show badL _ (r ++ [x]) = _
      rw [ih]
      have e : (((y :: r).map fun x => (exN x).rows ++ [[]]).flatten.length) = (exN y).rows.length + 1 + (r.map fun x => (exN x).rows ++ [[]]).flatten.length := by
        rw [List.map_cons, List.flatten_cons, List.length_append, List.length_append]
        rfl
      rw [e, Nat.add_assoc]
theorem badL_two (es : List Prt) (x : Prt) : badL 2 (es ++ [x]) = match badL 2 es with
    | some f => some f
    | none => match badP x.lns with
      | some rf => some (((LS es).length : Int) + 1, rf.1, rf.2)
      | none => none := by
  rw [badL_snoc]
  have e : (LS es).length = 2 + (es.map fun x => (exN x).rows ++ [[]]).flatten.length := by
    unfold LS
    rw [List.length_append]
    rfl
  rw [e]
def badN (o : Nat) : List NP → Option (Int × Str × Str)
  | [] => none
  | .txt ls :: r => badN (o + ls.length) r
  | .ex _ _ ss ws :: r => match badP (ss.map (·.1)) with
    | some rf => some ((o : Int) + 1, rf.1, rf.2)
    | none => badN (o + ss.length + ws.length) r
theorem badN_exs : ∀ (es : List Prt) (o : Nat), badN o (exsN es) = badL o es
  | [], _ => rfl
  | [x], o => by
    show (match badP ((x.lns.map fun l => (l, 32 :: l)).map (·.1)) with | some rf => _ | none => badN _ []) = match badP x.lns with | some rf => _ | none => badL _ []
    rw [exN_lns]
    cases badP x.lns <;> rfl
  | x :: y :: r, o => by
    have ih := badN_exs (y :: r) (o + ((exN x).rows.length + 1))
    show (match badP ((x.lns.map fun l => (l, 32 :: l)).map (·.1)) with | some rf => _ | none => badN _ (exsN (y :: r))) = match badP x.lns with | some rf => _ | none => badL _ (y :: r)
    rw [exN_lns, ← ih]
    have e : o + ((x.lns.map fun l => (l, 32 :: l)).length) + (List.replicate x.2.2.2 [49]).length + [([] : List Nat)].length = o + ((exN x).rows.length + 1) := by
      rw [rows_len, List.length_map, List.length_replicate]
      unfold Prt.lns
      rw [List.length_map]
      show _ + 1 = _
      omega
    rw [e]
theorem badN_NS (es : List Prt) : badN 0 (NS es) = badL 2 es := by
  cases es with
  | nil => rfl
  | cons x r =>
    have e : NS (x :: r) = NP.txt TOP :: exsN (x :: r) := rfl
    rw [e]
    show badN (0 + 2) (exsN (x :: r)) = _
    rw [badN_exs]
theorem bad_parts {R : List (List Nat)} : ∀ (ns : List NP) (pr post : List (List Nat)), (∀ q ∈ ns, q.Ok) → R = pr ++ (rowsAll ns ++ post) → badAll R (cutsB pr.length ns) = badN pr.length ns
  | [], _, _, _, _ => rfl
  | .txt ls :: r, pr, post, ho, hR => by
    have ih := bad_parts (R := R) r (pr ++ ls) post (fun q hq => ho q (List.mem_cons_of_mem _ hq)) (by rw [hR, rowsAll_cons, List.append_assoc, List.append_assoc]; rfl)
    rw [List.length_append] at ih
    exact ih
  | .ex c D ss ws :: r, pr, post, ho, hR => by
    have ih := bad_parts (R := R) r (pr ++ (NP.ex c D ss ws).rows) post (fun q hq => ho q (List.mem_cons_of_mem _ hq)) (by rw [hR, rowsAll_cons, List.append_assoc, List.append_assoc])
    have el : (NP.ex c D ss ws).rows.length = ss.length + ws.length := by
      show (srows D ss ++ ws.map (sps D ++ ·)).length = _
      rw [List.length_append, srows_len, List.length_map]
    rw [List.length_append, el, ← Nat.add_assoc] at ih
    obtain ⟨_, f1, _, f3⟩ := ex_facts (ho _ (List.mem_cons_self ..)) pr (rowsAll r ++ post) (A := R) (by rw [hR, rowsAll_cons, List.append_assoc])
    show (match badP (srcL R pr.length (pr.length + ss.length) (ldAt R pr.length + 4)) with | some rf => _ | none => badAll R (cutsB _ r)) = match badP (ss.map (·.1)) with | some rf => _ | none => badN _ r
    rw [f3, f1, ih]
theorem join_le (b : Nat) : ∀ x : List (List Nat), (∀ l ∈ x, l.length ≤ b) → (joinL [10] x).length ≤ x.length * (b + 1)
  | [], _ => Nat.zero_le _
  | [a], h => by
    have := h a (List.mem_cons_self ..)
    show a.length ≤ 1 * (b + 1)
    omega
  | a :: c :: y, h => by
    have i1 := join_le b (c :: y) fun l hl => h l (List.mem_cons_of_mem _ hl)
    have i2 := h a (List.mem_cons_self ..)
    rw [joinL_more _ _ (by simp), List.length_append, List.length_append, List.length_cons (a := a), Nat.succ_mul]
    show a.length + (1 + _) ≤ _
    omega
/-- the text is read, its parts' places known, wrong directives or not -/
theorem whole1 {ns : List NP} (sq : SeqOk ns) (rl : (rowsAll ns).length ≤ 40) (rs : ∀ l ∈ rowsAll ns, okc l = true ∧ l.length ≤ 200) (h0 : 0 ∈ leads (rowsAll ns)) :
    Whole (mk (joinL [10] (rowsAll ns ++ [[]]))) (rowsAll ns ++ [[]]) (rowsAll ns) [] ∧ badAll (rowsOf (rowsAll ns) []) (cutsL (rowsOf (rowsAll ns) []) 0) = badN 0 ns ∧
      piecesL (keptOf (rowsAll ns) []) 0 (cutsL (rowsOf (rowsAll ns) []) 0) = pcsB (keptOf (rowsAll ns) []) 0 ns := by
  have ok : ∀ q ∈ ns, q.Ok := fun q hq => sq.mem q hq
  have e0 : rowsOf (rowsAll ns) [] = rowsAll ns := List.append_nil _
  have ec : cutsL (rowsAll ns) 0 = cutsB 0 ns := cuts_of_parts _ [] sq
  have hne : rowsAll ns ≠ [] := fun z => by rw [z] at h0; cases h0
  have okl : ∀ l ∈ rowsAll ns ++ [[]], okc l = true ∧ l.length ≤ 200 := fun l hl => by
    rcases List.mem_append.mp hl with h | h
    · exact rs l h
    · rw [List.mem_singleton.mp h]
      exact ⟨rfl, Nat.zero_le _⟩
  have lx : (joinL [10] (rowsAll ns ++ [[]])).length ≤ 9000 := by
    have := join_le 200 _ fun l hl => (okl l hl).2
    have : (rowsAll ns ++ [[]]).length * (200 + 1) ≤ 41 * (200 + 1) := Nat.mul_le_mul_right _ (by rw [List.length_append]; show _ + 1 ≤ _; omega)
    omega
  refine ⟨⟨rfl, by simp, fun l hl c hc => ?_, lx, ?_, lx, fun c hc => ?_⟩, ?_, ?_⟩
  · have := (okl l hl).1
    unfold okc at this
    rw [List.all_eq_true] at this
    have := this c hc
    rw [Bool.and_eq_true, decide_eq_true_eq, decide_eq_true_eq] at this
    omega
  · rw [exp_rows fun l hl => (okl l hl).1]
    unfold levW
    have hl : leastN (leads (rowsAll ns ++ [[]])) = 0 := by
      rw [leads_end]
      have := (leastN_spec (fun z => by rw [z] at h0; cases h0)).2 _ h0
      omega
    rw [hl]
    exact (List.map_congr_left fun l _ => List.drop_zero).trans (List.map_id _)
  · rw [e0, ec] at hc
    obtain ⟨a, c0, D0, ss, ws, b, en, rfl⟩ := cutsB_mem hc
    rw [Nat.zero_add, e0]
    have ok0 : (NP.ex c0 D0 ss ws).Ok := ok _ (by rw [en]; simp)
    obtain ⟨f0, f1, f2, f3⟩ := ex_facts ok0 (rowsAll a) (rowsAll b) (A := rowsAll ns) (by rw [en, rowsAll_app, rowsAll_cons])
    have rsz : ∀ p ∈ ss, p.1.length ≤ 200 := fun p hp => by
      have hm : ∃ P : List Nat, srow D0 P p.2 ∈ rowsAll ns := by
        have hs : ∃ P : List Nat, srow D0 P p.2 ∈ srows D0 ss := by
          cases ss with
          | nil => cases hp
          | cons x r =>
            rcases List.mem_cons.mp hp with rfl | hp'
            · exact ⟨P3, List.mem_cons_self ..⟩
            · exact ⟨D3, List.mem_cons_of_mem _ (List.mem_map.mpr ⟨p, hp', rfl⟩)⟩
        obtain ⟨P, hP⟩ := hs
        refine ⟨P, ?_⟩
        rw [en, rowsAll_app, rowsAll_cons]
        exact List.mem_append_right _ (List.mem_append_left _ (List.mem_append_left _ hP))
      obtain ⟨P, hP⟩ := hm
      have z1 := (rs _ hP).2
      unfold srow at z1
      rw [List.length_append, List.length_append] at z1
      rcases (ok0.2.1 p hp).1 with h | ⟨h, _⟩
      · rw [h, List.length_cons] at z1
        omega
      · rw [h]
        exact Nat.zero_le _
    have hsl : ss.length ≤ 400 := by
      have z : (rowsAll ns).length = (rowsAll a).length + ((NP.ex c0 D0 ss ws).rows.length + (rowsAll b).length) := by
        rw [en, rowsAll_app, rowsAll_cons, List.length_append, List.length_append]
      have : (NP.ex c0 D0 ss ws).rows.length = ss.length + ws.length := by
        show (srows D0 ss ++ ws.map (sps D0 ++ ·)).length = _
        rw [List.length_append, srows_len, List.length_map]
      omega
    dsimp only
    rw [f3, f1]
    exact ⟨f0, few_of (fun l hl => by
      obtain ⟨p, hp, rfl⟩ := List.mem_map.mp hl
      exact rsz p hp) (by rw [List.length_map]; exact hsl)⟩
  · rw [e0, ec]
    exact bad_parts (R := rowsAll ns) ns [] [] ok (by rw [List.append_nil]; rfl)
  · rw [e0, ec]
    exact pieces_of_parts (keptOf (rowsAll ns) []) _ 0 sq (by
      rw [Nat.zero_add]
      unfold keptOf
      rw [List.length_append, List.length_map]
      rfl)

/-! ### the script of such a text -/
theorem sum_le {b : Nat} : ∀ {l : List Nat}, (∀ x ∈ l, x ≤ b) → l.sum ≤ b * l.length
  | [], _ => Nat.zero_le _
  | x :: r, h => by
    have i1 := sum_le (l := r) fun y hy => h y (List.mem_cons_of_mem _ hy)
    have i2 := h x (List.mem_cons_self ..)
    rw [List.sum_cons, List.length_cons, Nat.mul_succ]
    omega
def pcOf : NP → PcS
  | .txt ls => .inl (mk (joinL [] (ls.map (· ++ [10]))))
  | .ex c _ ss ws => if c = true then .inr none else .inr (some (ss.map (·.1), ws))
/-- what a script needs of a part: few short lines -/
structure PcSm (q : NP) : Prop where
  few : (psT (pcOf q)).length ≤ 500
  len : ∀ x ∈ psT (pcOf q), x.length ≤ 800
  txt : ∀ ls, q = .txt ls → (mk (joinL [] (ls.map (· ++ [10])))).length ≤ 9000
  ex : ∀ c D ss ws, q = .ex c D ss ws → Rows10 ws ∧ (∀ l ∈ ss.map (·.1), l.length ≤ 200) ∧ (∀ l ∈ ws, l.length ≤ 200) ∧ ss.length ≤ 40 ∧ ws.length ≤ 40
theorem ps_parts {C D : Addr} {R : List (List Nat)} {H : Hp} : ∀ (ns : List NP) (pr post : List (List Nat)) (us : List V), (∀ q ∈ ns, q.Ok ∧ PcSm q) → R = pr ++ (rowsAll ns ++ post) → PcsAt C D R H us (pcsB (keptOf R []) pr.length ns) → Paired (PsOk C D H) us (ns.map pcOf)
  | [], _, _, [], _, _, _ => .nil
  | .txt ts :: r, pr, post, v :: us, ho, hR, hp => by
    obtain ⟨hv, hp2⟩ := hp
    obtain ⟨_, hs⟩ := ho _ (List.mem_cons_self ..)
    have ek : ((keptOf R []).drop pr.length).take ts.length = ts.map (· ++ [10]) := by
      have e1 : keptOf R [] = R.map (· ++ [10]) := List.append_nil _
      rw [e1, hR, rowsAll_cons, List.append_assoc, List.map_append, List.drop_left' (List.length_map _), List.map_append]
      exact List.take_left' (List.length_map _)
    rw [ek] at hv
    refine .cons ⟨hv, hs.txt ts rfl⟩ (ps_parts (D := D) (R := R) r (pr ++ (NP.txt ts).rows) post us (fun q hq => ho q (List.mem_cons_of_mem _ hq)) (by rw [hR, rowsAll_cons, List.append_assoc, List.append_assoc]) ?_)
    rw [List.length_append]
    exact hp2
  | .ex c d ss ws :: r, pr, post, v :: us, ho, hR, hp => by
    obtain ⟨hv, hp2⟩ := hp
    obtain ⟨hok, hs⟩ := ho _ (List.mem_cons_self ..)
    have el : (NP.ex c d ss ws).rows.length = ss.length + ws.length := by
      show (srows d ss ++ ws.map (sps d ++ ·)).length = _
      rw [List.length_append, srows_len, List.length_map]
    refine .cons ?_ (ps_parts (D := D) (R := R) r (pr ++ (NP.ex c d ss ws).rows) post us (fun q hq => ho q (List.mem_cons_of_mem _ hq)) (by rw [hR, rowsAll_cons, List.append_assoc, List.append_assoc]) ?_)
    · obtain ⟨_, f1, f2, f3⟩ := ex_facts hok pr (rowsAll r ++ post) (A := R) (by rw [hR, rowsAll_cons, List.append_assoc])
      obtain ⟨q, dx, fs, rfl, k⟩ := hv
      dsimp only at k
      rw [f3, f1, f2, hok.2.2.1] at k
      show PsOk C D H _ (if c = true then .inr none else .inr (some (ss.map (·.1), ws)))
      cases c with
      | true =>
        rw [if_pos rfl] at k ⊢
        exact ⟨q, dx, fs, rfl, k.1⟩
      | false =>
        rw [if_neg Bool.false_ne_true] at k ⊢
        obtain ⟨h1, h2, h3, h4, h5⟩ := hs.ex _ _ _ _ rfl
        exact ⟨q, dx, fs, rfl, k.1, k.2.source, k.2.want, fun z => hok.1 (List.map_eq_nil_iff.mp z), h1, h2, h3, by rw [List.length_map]; exact h4, h5⟩
    · rw [List.length_append, el, ← Nat.add_assoc]
      exact hp2
  | [], _, _, _ :: _, _, _, h => h.elim
  | .txt _ :: _, _, _, [], _, _, h => h.elim
  | .ex _ _ _ _ :: _, _, _, [], _, _, h => h.elim
theorem sm_all : ∀ {ns : List NP}, (∀ q ∈ ns, PcSm q) → ((ns.map pcOf).map psT).flatten.length ≤ 500 * ns.length ∧ (((ns.map pcOf).map psT).flatten.map (·.length)).sum ≤ 400000 * ns.length
  | [], _ => ⟨Nat.le_refl _, Nat.le_refl _⟩
  | q :: r, h => by
    obtain ⟨i1, i2⟩ := sm_all (ns := r) fun x hx => h x (List.mem_cons_of_mem _ hx)
    have hq := h q (List.mem_cons_self ..)
    have s1 := sum_le (b := 800) (l := (psT (pcOf q)).map (·.length)) fun x hx => by
      obtain ⟨y, hy, rfl⟩ := List.mem_map.mp hx
      exact hq.len y hy
    rw [List.length_map] at s1
    have f1 := hq.few
    have s2 : 800 * (psT (pcOf q)).length ≤ 800 * 500 := Nat.mul_le_mul_left _ f1
    have e1 : (q :: r).length = r.length + 1 := rfl
    rw [List.map_cons, List.map_cons, List.flatten_cons, List.length_append, List.map_append, List.sum_append]
    exact ⟨by omega, by omega⟩
theorem txt_sm : ∀ ls ∈ [[tl "top"], TOP, [[]]], (decide ((psT (pcOf (.txt ls))).length ≤ 500) && ((psT (pcOf (.txt ls))).all fun x => decide (x.length ≤ 800)) && decide ((mk (joinL [] (ls.map (· ++ [10])))).length ≤ 9000)) = true := by decide +kernel
theorem sm_txt {ls : List (List Nat)} (h : ls ∈ [[tl "top"], TOP, [[]]]) : PcSm (.txt ls) := by
  have := txt_sm ls h
  rw [Bool.and_eq_true, Bool.and_eq_true, decide_eq_true_eq, List.all_eq_true, decide_eq_true_eq] at this
  exact ⟨this.1.1, fun x hx => of_decide_eq_true (this.1.2 x hx), fun l e => (by cases e; exact this.2), fun _ _ _ _ e => by cases e⟩
theorem sm_ex {x : Prt} (h : PrtOk x) : PcSm (exN x) := by
  have few := h.few
  have ll : ∀ l ∈ x.lns, l.length ≤ 190 := fun l hl => by
    obtain ⟨y, hy, rfl⟩ := List.mem_map.mp hl
    exact (h.ln y hy).len
  have le : x.lns.length = x.2.2.1.length := List.length_map _
  have hp : psT (pcOf (exN x)) = if x.2.1 = true then [] else mk (joinL [10] x.lns) :: (if List.replicate x.2.2.2 [49] = [] then [] else "# Expected:" :: (List.replicate x.2.2.2 [49]).map fun l => "## " ++ mk l) := by
    show psT (if x.2.1 = true then .inr none else .inr (some ((x.lns.map fun l => (l, 32 :: l)).map (·.1), List.replicate x.2.2.2 [49]))) = _
    rw [exN_lns]
    split <;> rfl
  have l2 := h.one
  have j1 := join_le 190 x.lns ll
  have j2 : x.lns.length * (190 + 1) ≤ 2 * (190 + 1) := Nat.mul_le_mul_right _ (by omega)
  refine ⟨?_, fun y hy => ?_, fun l e => (by cases e), fun c D ss ws e => ?_⟩
  · rw [hp]
    split
    · exact Nat.zero_le _
    · split
      · show 1 ≤ 500
        decide
      · rw [List.length_cons, List.length_cons, List.length_map, List.length_replicate]
        omega
  · rw [hp] at hy
    split at hy
    · cases hy
    · rcases List.mem_cons.mp hy with rfl | hy
      · rw [mk_len]
        omega
      · split at hy
        · cases hy
        · rcases List.mem_cons.mp hy with rfl | hy
          · decide +kernel
          · obtain ⟨l, hl, rfl⟩ := List.mem_map.mp hy
            rw [List.eq_of_mem_replicate hl]
            decide +kernel
  · cases e
    refine ⟨fun l hl => ?_, fun l hl => ?_, fun l hl => ?_, ?_, ?_⟩
    · rw [List.eq_of_mem_replicate hl]
      decide
    · rw [exN_lns] at hl
      have := ll l hl
      omega
    · rw [List.eq_of_mem_replicate hl]
      decide
    · rw [List.length_map]
      omega
    · rw [List.length_replicate]
      omega
theorem exsN_sm : ∀ {es : List Prt}, (∀ x ∈ es, PrtOk x) → (∀ q ∈ exsN es, PcSm q) ∧ (exsN es).length ≤ 2 * es.length
  | [], _ => ⟨fun q h => (by cases h), Nat.le_refl _⟩
  | [x], h => ⟨fun q hq => by
    rw [List.mem_singleton.mp (show q ∈ [exN x] from hq)]
    exact sm_ex (h x (List.mem_cons_self ..)), by show 1 ≤ 2 * 1; decide⟩
  | x :: y :: r, h => by
    obtain ⟨i1, i2⟩ := exsN_sm (es := y :: r) fun z hz => h z (List.mem_cons_of_mem _ hz)
    refine ⟨fun q hq => ?_, ?_⟩
    · rcases List.mem_cons.mp (show q ∈ exN x :: NP.txt [[]] :: exsN (y :: r) from hq) with rfl | hq
      · exact sm_ex (h x (List.mem_cons_self ..))
      · rcases List.mem_cons.mp hq with rfl | hq
        · exact sm_txt (by simp)
        · exact i1 q hq
    · have e : (x :: y :: r).length = (y :: r).length + 1 := rfl
      show (exsN (y :: r)).length + 1 + 1 ≤ _
      omega
theorem NS_sm {es : List Prt} (h : ∀ x ∈ es, PrtOk x) : (∀ q ∈ NS es, PcSm q) ∧ (NS es).length ≤ 2 * es.length + 1 := by
  cases es with
  | nil => exact ⟨fun q hq => by rw [List.mem_singleton.mp (show q ∈ [NP.txt [tl "top"]] from hq)]; exact sm_txt (by simp), Nat.le_refl _⟩
  | cons x r =>
    obtain ⟨i1, i2⟩ := exsN_sm h
    have e : NS (x :: r) = NP.txt TOP :: exsN (x :: r) := rfl
    rw [e]
    refine ⟨fun q hq => ?_, by rw [List.length_cons]; omega⟩
    rcases List.mem_cons.mp hq with rfl | hq
    · exact sm_txt (by simp)
    · exact i1 q hq
/-- what the three defs that read a text need of it -/
theorem text_ok {es : List Prt} (h : ∀ x ∈ es, PrtOk x) (hl : es.length ≤ 4) : ∃ (ls init : List (List Nat)) (last : List Nat) (pl : List PcS), Whole (mk (joinL [10] (LS es))) ls init last ∧ badAll (rowsOf init last) (cutsL (rowsOf init last) 0) = badL 2 es ∧
    (piecesL (keptOf init last) 0 (cutsL (rowsOf init last) 0)).length ≤ 1000 ∧ (∀ (C D : Addr) (H : Hp) (us : List V), PcsAt C D (rowsOf init last) H us (piecesL (keptOf init last) 0 (cutsL (rowsOf init last) 0)) → Paired (PsOk C D H) us pl) ∧
    ((pl.map psT).flatten.length ≤ 5000 ∧ ((pl.map psT).flatten.map (·.length)).sum ≤ 4000000) := by
  obtain ⟨sz, ln⟩ := LS_sz h
  have er := NS_rows es
  have rl : (rowsAll (NS es)).length + 1 = (LS es).length := by
    rw [← er, List.length_append]
    rfl
  have sq := NS_seq h
  obtain ⟨sm, nl⟩ := NS_sm h
  have h0 : 0 ∈ leads (rowsAll (NS es)) := by
    cases es with
    | nil => decide +kernel
    | cons x r =>
      have e : rowsAll (NS (x :: r)) = TOP ++ rowsAll (exsN (x :: r)) := rfl
      rw [e]
      unfold leads
      rw [List.filter_append, List.map_append]
      exact List.mem_append_left _ (show 0 ∈ leads TOP by decide +kernel)
  obtain ⟨w1, w2, w3⟩ := whole1 sq (by omega) (fun l hl => sz l (by rw [← er]; exact List.mem_append_left _ hl)) h0
  rw [er] at w1
  have e0 : rowsOf (rowsAll (NS es)) [] = rowsAll (NS es) := List.append_nil _
  refine ⟨LS es, rowsAll (NS es), [], (NS es).map pcOf, w1, ?_, ?_, fun C D H us hp => ?_, ?_⟩
  · rw [w2, badN_NS]
  · rw [w3]
    have : ∀ (ns : List NP) (o : Nat) (k : List (List Nat)), (pcsB k o ns).length = ns.length := fun ns => by
      induction ns with
      | nil => exact fun _ _ => rfl
      | cons q r ih =>
        intro o k
        cases q with
        | txt ls => exact congrArg Nat.succ (ih _ _)
        | ex c D ss ws => exact congrArg Nat.succ (ih _ _)
    rw [this]
    omega
  · rw [w3] at hp
    rw [e0] at hp
    exact ps_parts (R := rowsAll (NS es)) (NS es) [] [] us (fun q hq => ⟨sq.mem q hq, sm q hq⟩) (by rw [List.append_nil]; rfl) hp
  · obtain ⟨s1, s2⟩ := sm_all sm
    have : 500 * (NS es).length ≤ 500 * 9 := Nat.mul_le_mul_left _ (by omega)
    have : 400000 * (NS es).length ≤ 400000 * 9 := Nat.mul_le_mul_left _ (by omega)
    exact ⟨by omega, by omega⟩

/-! ### the law itself -/
theorem wds_all {x : Prt} (h : PrtOk x) : wordsAll x.lns = x.wds.map mk := by
  unfold wordsAll Prt.lns Prt.wds
  rw [List.map_map, List.map_flatten, List.map_map]
  congr 1
  exact List.map_congr_left fun y hy => (h.ln y hy).wd
theorem fault_bad {x : Prt} (h : PrtOk x) : faultW x.2.1 (rowsT x.lns) x.wds = badP x.lns := by
  unfold faultW badP badW
  rw [wds_all h, lns_rem h]
  have e : ((x.wds.map mk).isEmpty) = x.wds.isEmpty := by cases x.wds <;> rfl
  rw [e]
  all_goals (cases (x.wds.map mk).find? (fun w => !okW w) <;> rfl)
/-! tables, tuples stand where lists change -/
theorem TabS.nl {H H' : Hp} {Pt : Addr} {q : Str} (t : LamX.TabS H Pt q) (s : NL H H') : LamX.TabS H' Pt q := by
  obtain ⟨ps, h1, h2, h3⟩ := t
  refine ⟨ps, s _ _ h1 nofun, h2, fun pos cv hc => ?_⟩
  obtain ⟨c, e1, e2⟩ := h3 pos cv hc
  refine ⟨c, e1, s _ _ e2 fun xs z => ?_⟩
  unfold LamX.CodeO at z
  cases z
def Tb (Pt : Addr) (H : Hp) : Prop := LamX.Tabs [(Pt, (envOfC "law" (defScope s_law) 0 0 .none).qual ++ "<lambda>")] H
theorem Tb.nl {H H' : Hp} {Pt : Addr} (t : Tb Pt H) (s : NL H H') : Tb Pt H' := fun p hp => TabS.nl (t p hp) s
theorem Tb.same {H H' : Hp} {Pt : Addr} (t : Tb Pt H) (s : Same H H') : Tb Pt H' := t.nl (NL.same s)
theorem NL.trans {H H1 H2 : Hp} (a : NL H H1) (b : NL H1 H2) : NL H H2 := fun c o h n => b c o (a c o h n) n
theorem Kept.nl {D A B : Addr} {n : Int} {H H' : Hp} (d : Drw H D A B n) (k : Kept D A H H') : NL H H' := fun b o e no => by
  obtain ⟨as, bs, c', e1, e2, _⟩ := d.ex
  refine k b o e (fun z => ?_) (fun z => ?_)
  · rw [z, e1] at e
    exact no _ (Option.some.inj e).symm
  · rw [z, e2] at e
    exact no _ (Option.some.inj e).symm
theorem Drw.ext {H H' : Hp} {D A B : Addr} {n : Int} (h : Drw H D A B n) (k : LamX.ExtN H H') : Drw H' D A B n := by
  obtain ⟨⟨as, bs, c, h1, h2, h3⟩, h4, h5⟩ := h
  exact ⟨⟨as, bs, c, k _ _ h1 nofun, k _ _ h2 nofun, k _ _ h3 nofun⟩, h4, h5⟩
/-- what is due, where it lies -/
def DueF (H : Hp) (v : V) : Option (Int × Str × Str) → Prop
  | none => v = .non
  | some f => ∃ T, v = .ref T ∧ H T = some (.tup [.int f.1, .str f.2.1, .str f.2.2])
theorem DueF.nl {H H' : Hp} {v : V} (s : NL H H') : ∀ {f : Option (Int × Str × Str)}, DueF H v f → DueF H' v f
  | none, h => h
  | some _, ⟨T, e, h⟩ => ⟨T, e, s _ _ h nofun⟩
theorem DueF.ext {H H' : Hp} {v : V} (s : LamX.ExtN H H') : ∀ {f : Option (Int × Str × Str)}, DueF H v f → DueF H' v f
  | none, h => h
  | some _, ⟨T, e, h⟩ => ⟨T, e, s _ _ h nofun⟩
structure OutL (D A B L : Addr) : Prop where
  d : L ≠ D
  a : L ≠ A
  b : L ≠ B
theorem out_of {H : Hp} {D A B L : Addr} {n : Int} (d : Drw H D A B n) (h : H L = none) : OutL D A B L := by
  obtain ⟨_, _, ⟨_, eB⟩⟩ := d.tracked
  exact ⟨(fresh_ne d h).1, (fresh_ne d h).2, (ne_of_none eB h).symm⟩
theorem nl10 : ("\n" : Str) = mk [10] := ext_tl (by decide +kernel)
theorem srows_at (D : Nat) {ss : List (List Nat × List Nat)} {j : Nat} {p : List Nat × List Nat} (h : ss[j]? = some p) : (srows D ss)[j]? = some (srow D (if j = 0 then P3 else D3) p.2) := by
  cases ss with
  | nil => cases h
  | cons a r =>
    cases j with
    | zero =>
      cases h
      rfl
    | succ j =>
      have h2 : r[j]? = some p := h
      show (r.map fun q => srow D D3 q.2)[j]? = _
      rw [List.getElem?_map, h2]
      rfl
theorem strV_at (A : List (List Nat)) (z : List Nat) (r : List (List Nat)) : (strV (A ++ z :: r))[A.length]? = some (.str (mk z)) := by
  unfold strV
  rw [List.getElem?_map, List.getElem?_map, List.getElem?_append_right (Nat.le_refl _), Nat.sub_self]
  rfl
theorem strV_set (A : List (List Nat)) (z l : List Nat) (r : List (List Nat)) : (strV (A ++ z :: r)).set A.length (.str (mk l)) = strV (A ++ l :: r) := by
  rw [← strV_app, ← strV_app, List.set_append_right _ _ (by rw [strV_len]; exact Nat.le_refl _), strV_len, Nat.sub_self]
  rfl
theorem gap_z (z : List Nat) : mk z ++ Txt.mul " " (if (!decide (V.str (mk z) = V.str "")) = true then 1 else 0) = mk (z ++ gz z) := by
  have e00 : ("" : Str) = mk [] := ext_tl (by decide +kernel)
  have e1 : (" " : Str) = mk [32] := ext_tl (by decide +kernel)
  rw [e00, e1]
  cases z with
  | nil =>
    rw [decide_eq_true rfl, Bool.not_true, if_neg Bool.false_ne_true, mul_0, app_mk]
    rfl
  | cons c r =>
    have hd : decide (V.str (mk (c :: r)) = V.str (mk [])) = false := decide_eq_false fun e => by
      have : c :: r = [] := congrArg (fun v => match v with | V.str y => tl y | _ => []) e
      cases this
    rw [hd, Bool.not_false, if_pos rfl, mul_1, app_mk]
    rfl
/-- all but a draw's lists and one list stand -/
def K3 (D A S : Addr) (H H' : Hp) : Prop := ∀ c o, H c = some o → c ≠ D → c ≠ A → c ≠ S → H' c = some o
theorem K3.kept {D A S : Addr} {H H1 H' : Hp} (h : K3 D A S H H1) (k : Kept D A H1 H') : K3 D A S H H' := fun c o e n1 n2 n3 => k _ _ (h c o e n1 n2 n3) n1 n2
theorem K3.upd {D A S : Addr} {H H1 : Hp} {o : HO} (h : K3 D A S H H1) : K3 D A S H (L2.upd H1 S o) := fun c o' e n1 n2 n3 => by
  rw [upd_ne n3]
  exact h c o' e n1 n2 n3
theorem K3.nl {D A B S : Addr} {n : Int} {H H' : Hp} {xs : List V} (d : Drw H D A B n) (e : H S = some (.lst xs)) (k : K3 D A S H H') : NL H H' := fun b o eb no => by
  obtain ⟨as, bs, c', e1, e2, _⟩ := d.ex
  refine k b o eb (fun z => ?_) (fun z => ?_) (fun z => ?_)
  · rw [z, e1] at eb
    exact no _ (Option.some.inj eb).symm
  · rw [z, e2] at eb
    exact no _ (Option.some.inj eb).symm
  · rw [z, e] at eb
    exact no _ (Option.some.inj eb).symm
section
variable {P : Program} {w : World} {K : PySem.W.Frag} {mg : Str → Option Value} {base : Heap}
def sp_law (K : PySem.W.Frag) (Pt : Addr) : Sp := fun vs H Q _ => ∃ (a : Addr) (ns : List Int), vs = [.ref a] ∧ SqL K H a (ns.map V.int) ∧ ns.length ≤ 63 ∧ H Pt = some (.tbl #[]) ∧ ∀ H', Q (.bl true) H'
theorem ok_law {f c Pt : Addr} {oc dV kV doc pm ct : Value} {od an : Option Addr} {osl : Array (Option Value)} (lk : K.lookup f = some ⟨oc, od, .func (PySem.W.fnOf "law" "law" (defArgs s_law) (defBody s_law) (defScope s_law) dV kV doc pm an (.ref c) ct), osl⟩) (hcd : PySem.W.codeIn K (.ref c) "law" = true) (TB : LamX.TabB base mg c Pt) {C_Example : Addr} (T_Example : Txt_Example K mg C_Example) {C_Comment : Addr} (T_Comment : Txt_Comment K mg C_Comment) {C_BadText : Addr} (T_BadText : Err_BadText K mg C_BadText) (O_parsed : OwnX P w K mg base "parsed" 7 ["text"] [] (sp_parsed C_Example C_Comment C_BadText)) (O_examples_of : OwnX P w K mg base "examples_of" 8 ["text"] [] (sp_examples_of C_Example C_Comment C_BadText)) (O_script_of : OwnX P w K mg base "script_of" 8 ["text"] [] (sp_script_of C_Example C_Comment C_BadText)) (O_law_draws : Own P w K mg base "_law_draws" 1 ["script"] [] (sp_law_draws K)) (O_law_take : Own P w K mg base "_law_take" 2 ["draws", "size"] [] (sp_law_take)) (O_law_pick : Own P w K mg base "_law_pick" 3 ["draws", "things"] [] (sp_law_pick)) (O_law_some_words : Own P w K mg base "_law_some_words" 5 ["draws"] [] (sp_law_some_words)) (O_law_directive : Own P w K mg base "_law_directive" 4 ["draws", "words"] [] (sp_law_directive)) (O_law_fault : Own P w K mg base "_law_fault" 2 ["words", "is_comment", "source"] [] (sp_law_fault)) (O_law_same : Own P w K mg base "_law_same" 6 ["found", "due"] [] (sp_law_same 6)) (m_enumerate : mg "enumerate" = none) (m_int : mg "int" = none) (m_isinstance : mg "isinstance" = none) (m_len : mg "len" = none) (m_range : mg "range" = none) {C_PromptError : Addr} (zP : mg "PromptError" = some (.ref C_PromptError)) (L_law_wrong : OwnL K mg "_law_wrong" s_law_wrong) (z_PE : PySem.W.kitOne K (.ref C_BadText) (.ref C_PromptError) = some true) : FnOk P w K mg base CX0 11 f (PySem.W.fnOf "law" "law" (defArgs s_law) (defBody s_law) (defScope s_law) dV kV doc pm an (.ref c) ct) ["script"] (sp_law K Pt) := by
  refine fn_tab lk hcd sc_law (fun vs H Q E h => ?_) (fun A outer s H vs Q E hr h => ?_)
  · obtain ⟨_, _, rfl, _⟩ := h
    rfl
  · obtain ⟨a, ns, rfl, hS, hlen, hT, k⟩ := h
    obtain ⟨f_parsed, hf_parsed, H_parsed⟩ := OwnX.held (k := 8) O_parsed (by decide)
    obtain ⟨f_examples_of, hf_examples_of, H_examples_of⟩ := OwnX.held (k := 8) O_examples_of (by decide)
    obtain ⟨f_script_of, hf_script_of, H_script_of⟩ := OwnX.held (k := 8) O_script_of (by decide)
    refine ⟨_, (pss_cons (ps_set (i := 1) sc_law.nd rfl (.inl rfl) (pe_own O_law_draws (hr.mono (by decide)) (by rfl) (pa_cons (pv 0) pa_nil)))
      (pss_cons (ps_for PassesOwn.never rfl (pi_range1 rfl m_range (pa_cons pe_int pa_nil)) (pg_name (i := 2) sc_law.nd rfl (.inl rfl))
          (pss_cut (ps_asg (pe_tup (pa_cons (pe_lst (pa_cons pe_str (pa_cons pe_str pa_nil))) (pa_cons pe_non pa_nil))) (pg_tup rfl (pgs_cons (pg_name (i := 3) sc_law.nd rfl (.inr rfl)) (pgs_cons (pg_name (i := 4) sc_law.nd rfl (.inl rfl)) pgs_nil))))
            (pss_cons (ps_for PassesOwn.never rfl (pi_range1 rfl m_range (pa_cons (pe_own O_law_take (hr.mono (by decide)) (by rfl) (pa_cons (pv 1) (pa_cons pe_int pa_nil))) pa_nil)) (pg_name (i := 5) sc_law.nd rfl (.inl rfl))
                (pss_cut (ps_par3 (i := 6) (j := 7) (l := 8) (by rfl) sc_law.nd rfl rfl rfl (by decide) (by decide) (by decide) rfl rfl rfl (pa_cons (pe_own O_law_pick (hr.mono (by decide)) (by rfl) (pa_cons (pv 1) (pa_cons (pe_lst (pa_cons pe_int (pa_cons pe_int pa_nil))) pa_nil))) (pa_cons (pe_cmpR op_eq (pe_own O_law_take (hr.mono (by decide)) (by rfl) (pa_cons (pv 1) (pa_cons pe_int pa_nil))) pe_int (nomark _)) (pa_cons (pe_lst pa_nil) pa_nil))) (by rfl))
                  (pss_cut (ps_set (i := 9) sc_law.nd rfl (.inl rfl) (pe_slice sl_list (pe_ix ix_list (pe_lst (pa_cons (pe_lst (pa_cons pe_str (pa_cons pe_str pa_nil))) (pa_cons (pe_lst (pa_cons pe_str (pa_cons pe_str pa_nil))) pa_nil))) (pe_callTy call_int1 (by rfl) m_int (by decide +kernel) (pa_cons (pv 7) pa_nil)) (fun _ _ => rfl)) po_none (po_some (pe_op op_add pe_int (pe_own O_law_take (hr.mono (by decide)) (by rfl) (pa_cons (pv 1) (pa_cons pe_int pa_nil)))))))
                  (pss_cons (ps_for PassesOwn.never rfl (pi_range1 rfl m_range (pa_cons (pe_callB call_len_seq (by rfl) m_len PySem.boot_len (pa_cons (pv 9) pa_nil)) pa_nil)) (pg_name (i := 10) sc_law.nd rfl (.inl rfl))
                      (pss_one (ps_if (pt_cmpR op_eq (pe_own O_law_take (hr.mono (by decide)) (by rfl) (pa_cons (pv 1) (pa_cons pe_int pa_nil))) pe_int (nomark _))
                            (pss_cons (ps_set (i := 11) sc_law.nd rfl (.inl rfl) (pe_own O_law_some_words (hr.mono (by decide)) (by rfl) (pa_cons (pv 1) pa_nil)))
                              (pss_cons (ps_set (i := 8) sc_law.nd rfl (.inl rfl) (pe_op op_cat (pv 8) (pv 11)))
                              (pss_cons (ps_asg (pe_own O_law_directive (hr.mono (by decide)) (by rfl) (pa_cons (pv 1) (pa_cons (pv 11) pa_nil))) (pg_tup rfl (pgs_cons (pg_name (i := 12) sc_law.nd rfl (.inl rfl)) (pgs_cons (pg_name (i := 13) sc_law.nd rfl (.inl rfl)) pgs_nil))))
                              (pss_cons (ps_asg (pe_op op_add_str (pe_ix ix_list (pv 9) (pv 10) (fun _ _ => rfl)) (pe_op op_repS pe_str (pe_callTy call_int1 (by rfl) m_int (by decide +kernel) (pa_cons (pe_cmpR op_ne (pe_ix ix_list (pv 9) (pv 10) (fun _ _ => rfl)) pe_str (nomark _)) pa_nil)))) (pg_sub (pv 9) (pv 10) set_list))
                              (pss_one (ps_asg (pe_op op_add_str (pe_op op_add_str (pe_ix ix_list (pv 9) (pv 10) (fun _ _ => rfl)) (pv 12)) (pv 13)) (pg_sub (pv 9) (pv 10) set_list)))))))
                            pss_nil)))
                  (pss_cut (ps_set (i := 14) sc_law.nd rfl (.inl rfl) (pe_own O_law_fault (hr.mono (by decide)) (by rfl) (pa_cons (pv 8) (pa_cons (pv 7) (pa_cons (pe_m1 PySem.F.slot_str_join PySem.F.type_str_join mt_join pe_str (pe_lc (own := [("line", 15)]) (g := gName 15) (tt := tYes) (by rfl) sc_law.nd (pi_list (pv 9)) (blkOk_by (own := [("line", 15)]) (N := ["script", "draws", "turn", "lines", "due", "k", "indent", "is_comment", "words", "some", "at", "mine", "ahead", "text", "fault", "line", "ask", "found"]) (sc := defScope s_law) (by decide +kernel)) (fun _ _ _ _ _ => (pg_name (i := 15) sc_law.nd rfl (.inl rfl))) (fun _ _ _ _ _ => pts_nil) (fun _ _ _ _ _ => (pe_op op_add_str (pv 15) pe_str)))) pa_nil)))))
                  (pss_cut (ps_if (PW.pt (pw_and (pt_cmpR op_notN (pv 14) pe_non (nomark _)) (pw_and1 (pt_cmpR op_isN (pv 4) pe_non (nomark _)))))
                      (pss_one (ps_set (i := 4) sc_law.nd rfl (.inl rfl) (pe_op op_catT (pe_tup (pa_cons (pe_op op_add (pe_callB call_len_seq (by rfl) m_len PySem.boot_len (pa_cons (pv 3) pa_nil)) pe_int) pa_nil)) (pv 14))))
                      pss_nil)
                  (pss_cons (ps_for PassesOwn.never rfl (pi_enum (by rfl) m_enumerate (pa_cons (pv 9) pa_nil)) (pg_tup rfl (pgs_cons (pg_name (i := 10) sc_law.nd rfl (.inl rfl)) (pgs_cons (pg_name (i := 15) sc_law.nd rfl (.inl rfl)) pgs_nil)))
                      (pss_one (ps_expr (pe_bm PySem.F.plainAttrs_list PySem.F.slot_list_append PySem.F.type_list_append mt_append (pv 3) (pa_cons (pe_op op_add_str (pe_op op_add_str (pe_op op_add_str (pe_op op_repS pe_str (pv 6)) (pe_ix ix_list (pe_lst (pa_cons pe_str (pa_cons pe_str pa_nil))) (pe_callTy call_int1 (by rfl) m_int (by decide +kernel) (pa_cons (pe_cmpR op_gt (pv 10) pe_int (nomark _)) pa_nil)) (fun _ _ => rfl))) pe_str) (pv 15)) pa_nil)))))
                  (pss_one (ps_set (i := 3) sc_law.nd rfl (.inr rfl) (pe_op op_cat (pe_op op_cat (pv 3) (pe_op op_rep (pe_lst (pa_cons (pe_op op_add_str (pe_op op_repS pe_str (pv 6)) pe_str) pa_nil)) (pe_own O_law_take (hr.mono (by decide)) (by rfl) (pa_cons (pv 1) (pa_cons pe_int pa_nil))))) (pe_lst (pa_cons pe_str pa_nil))))))))))))
            (pss_one (ps_for PassesOwn.never rfl (pi_tup (pe_tup (pa_cons (pe_glob (v := .ref f_parsed) rfl hf_parsed rfl) (pa_cons (pe_glob (v := .ref f_examples_of) rfl hf_examples_of rfl) (pa_cons (pe_glob (v := .ref f_script_of) rfl hf_script_of rfl) pa_nil))))) (pg_name (i := 16) sc_law.nd rfl (.inr rfl))
                (pss_cons (ps_set (i := 17) sc_law.nd rfl (.inl rfl) (pe_lamL (k := 8) (Ng := ["ask", "found", "e"]) L_law_wrong (fun F => F.bindsN (ps := ["ask"]) (fun _ _ _ _ _ _ us hl => match us, hl with | [_], _ => rfl)) (hr.mono (by decide)) (by rfl) sc_law_wrong3 rfl (.inl rfl) (fun _ _ => gives_wrong T_BadText zP z_PE m_isinstance) TB rfl (show LamX.LamS (defScope s_law) _ from LamX.lamS_by (by decide +kernel)) (fun A outer s H E f c' hr2 => (pe_callAX (i := 16) (askS_held H_parsed H_examples_of H_script_of) hr2 (passes_call (takes_of rfl rfl rfl rfl) (fun _ _ _ _ h => h)) rfl (.inr (.inr rfl)) (pa_cons (pe_m1 PySem.F.slot_str_join PySem.F.type_str_join (mt_joinK (K' := K) rfl) pe_str (pv 3)) pa_nil)))))
                  (pss_one (ps_if (PW.pt (pw_or (PW.pt (pw_and (pt_cmpR op_isN (pv 4) pe_non (nomark _)) (pw_and1 (pt_cmpR op_ne (pe_ix ix_tup (pv 17) pe_int (fun _ _ => rfl)) pe_str (nomark _))))) (pw_or1 (PW.pt (pw_and (pt_cmpR op_notN (pv 4) pe_non (nomark _)) (pw_and1 (pt_not (pt_val (pe_own O_law_same (hr.mono (by decide)) (by rfl) (pa_cons (pv 17) (pa_cons (pv 4) pa_nil)))))))))))
                      (pss_one (ps_ret pe_bl))
                      pss_nil))))))))
      (pss_one (ps_ret pe_bl)))), ?_⟩
    refine ⟨.ref a, rfl, a, ns, rfl, hS, hlen, fun H1 D A1 B s1 dr nD nA => ?_⟩
    have tb1 : Tb Pt H1 := fun p hp => by
      rw [List.mem_singleton.mp hp]
      exact LamX.TabS.nil (s1 _ _ hT)
    refine ⟨10, rfl, by decide, by decide, for_range (n := 10) (fun i σ H2 => ∃ (n : Int) (v2 v3 v4 v5 v6 v7 v8 v9 v10 v11 v12 v13 v14 v15 v16 v17 : Option V), σ = [some (.ref a), some (.ref D), v2, v3, v4, v5, v6, v7, v8, v9, v10, v11, v12, v13, v14, v15, v16, v17] ∧ Drw H2 D A1 B n ∧ n ≤ 1000 * i ∧ Tb Pt H2) ⟨0, _, _, _, _, _, _, _, _, _, _, _, _, _, _, _, _, rfl, dr, by omega, tb1⟩ ?_ ?_⟩
    · rintro i σ H2 hi ⟨n, v2, v3, v4, v5, v6, v7, v8, v9, v10, v11, v12, v13, v14, v15, v16, v17, rfl, dr, hn, tb⟩
      refine ⟨fun σ H3 => ∃ L : Addr, σ = [some (.ref a), some (.ref D), some (.int (0 + (i : Nat))), some (.ref L), some .non, v5, v6, v7, v8, v9, v10, v11, v12, v13, v14, v15, v16, v17] ∧ H3 L = some (.lst (strV (LS []))) ∧ OutL D A1 B L ∧ Drw H3 D A1 B n ∧ Tb Pt H3, ?_, ?_⟩
      · refine ⟨by show 2 ≤ sizeLine; decide, fun L nL => ?_⟩
        generalize g1 : upd H2 L _ = H3
        obtain ⟨s3, e3⟩ := laid g1 nL
        refine ⟨by show 2 ≤ sizeLine; decide, fun T nT => ?_⟩
        generalize g2 : upd H3 T _ = H4
        obtain ⟨s4, e4⟩ := laid g2 nT
        refine ⟨T, _, rfl, SqT.of e4, rfl, _, _, rfl, _, _, rfl, rfl, L, rfl, ?_, out_of dr nL, (dr.same s3).same s4, (tb.same s3).same s4⟩
        rw [s4 _ _ e3]
        exact congrArg (fun z => some (HO.lst z)) (by decide +kernel)
      rintro σ H3 ⟨L, rfl, eL, oL, d3, tb3⟩
      refine ⟨.ref D, rfl, D, A1, B, n, 5, rfl, d3, by omega, by decide, by decide, fun r H4 r0 r1 d4 k4 => ?_⟩
      refine ⟨r, rfl, by omega, by omega, for_range (n := r.toNat) (fun q σ H5 => ∃ (es : List Prt) (LN : Addr) (du : V) (m : Int) (v5 v6 v7 v8 v9 v10 v11 v12 v13 v14 v15 : Option V), σ = [some (.ref a), some (.ref D), some (.int (0 + (i : Nat))), some (.ref LN), some du, v5, v6, v7, v8, v9, v10, v11, v12, v13, v14, v15, v16, v17] ∧ es.length = q ∧ (∀ x ∈ es, PrtOk x) ∧ H5 LN = some (.lst (strV (LS es))) ∧ OutL D A1 B LN ∧ DueF H5 du (badL 2 es) ∧ Drw H5 D A1 B m ∧ m ≤ n + 1 + 100 * q ∧ Tb Pt H5) ⟨[], L, .non, n + 1, _, _, _, _, _, _, _, _, _, _, _, rfl, rfl, nofun, k4 _ _ eL oL.d oL.a, oL, rfl, d4, by omega, tb3.nl (k4.nl d3)⟩ ?_ ?_⟩
      · rintro q σ H5 hq ⟨es, LN, du, m, v5, v6, v7, v8, v9, v10, v11, v12, v13, v14, v15, rfl, hes, heo, eLN, oLN, hdu, d5, hm, tb5⟩
        have hq4 : q < 4 := by omega
        -- the indent, whether it is a comment, no words
        refine ⟨fun σ H6 => ∃ (ii : Nat) (cb : Bool) (W : Addr), σ = [some (.ref a), some (.ref D), some (.int (0 + (i : Nat))), some (.ref LN), some du, some (.int (0 + (q : Nat))), some (.int (ii : Int)), some (.bl cb), some (.ref W), v9, v10, v11, v12, v13, v14, v15, v16, v17] ∧ (ii = 0 ∨ ii = 3) ∧ H6 W = some (.lst (strV [])) ∧ H5 W = none ∧ OutL D A1 B W ∧ Drw H6 D A1 B (m + 2) ∧ Kept D A1 H5 H6, ?_, ?_⟩
        · refine ⟨.ref D, rfl, by show 2 ≤ sizeLine; decide, fun G nG => ?_⟩
          generalize g1 : upd H5 G _ = H6
          obtain ⟨s6, e6⟩ := laid g1 nG
          obtain ⟨GD, GA⟩ := fresh_ne d5 nG
          refine ⟨D, A1, B, .ref G, m, _, rfl, d5.same s6, by omega, .inl ⟨G, rfl, .inl e6, GD, GA⟩, by show 1 ≤ 2; decide, by show 2 < 1000000; decide, fun i2 v H7 hv d7 k7 => ?_⟩
          obtain ⟨ii, hii, rfl⟩ := ints_of (js := [0, 3]) hv
          refine ⟨.ref D, rfl, D, A1, B, m + 1, 3, rfl, d7, by omega, by decide, by decide, fun r3 H8 _ _ d8 k8 => ?_⟩
          refine ⟨rfl, by show 0 ≤ sizeLine; decide, fun W nW => ⟨_, _, _, rfl, ii, decide (V.int r3 = V.int 0), W, rfl, ?_, upd_same, ?_, out_of d8 nW, (show Drw _ D A1 B (m + 2) from by
            have := d8.same (same_new (o := .lst []) nW)
            rw [show m + 1 + 1 = m + 2 by omega] at this
            exact this), ?_⟩⟩
          · simpa using hii
          · exact ((Kept.fresh s6 k7).trans k8).free' d8 nW
          · exact ((Kept.fresh s6 k7).trans k8).trans (Kept.of (same_new nW))
        rintro σ H6 ⟨ii, cb, W, rfl, hii, eW, nWH, oW, d6, k6⟩
        have eLN6 := k6 _ _ eLN oLN.d oLN.a
        have hdu6 := hdu.nl (k6.nl d5)
        have tb6 := tb5.nl (k6.nl d5)
        have WL : W ≠ LN := (ne_of_none eLN nWH).symm
        -- the source lines
        refine ⟨fun σ H7 => ∃ (zs : List (List Nat)) (S : Addr), σ = [some (.ref a), some (.ref D), some (.int (0 + (i : Nat))), some (.ref LN), some du, some (.int (0 + (q : Nat))), some (.int (ii : Int)), some (.bl cb), some (.ref W), some (.ref S), v10, v11, v12, v13, v14, v15, v16, v17] ∧ (∀ z ∈ zs, z ∈ ZSc cb) ∧ zs ≠ [] ∧ zs.length ≤ 2 ∧ H7 S = some (.lst (strV zs)) ∧ H6 S = none ∧ OutL D A1 B S ∧ Drw H7 D A1 B (m + 3) ∧ Kept D A1 H6 H7, ?_, ?_⟩
        · refine ⟨by show 2 ≤ sizeLine; decide, fun X1 n1 => ?_⟩
          generalize g1 : upd H6 X1 _ = H7
          obtain ⟨s7, e7⟩ := laid g1 n1
          refine ⟨by show 2 ≤ sizeLine; decide, fun X2 n2 => ?_⟩
          generalize g2 : upd H7 X2 _ = H8
          obtain ⟨s8, e8⟩ := laid g2 n2
          refine ⟨by show 2 ≤ sizeLine; decide, fun X3 n3 => ?_⟩
          generalize g3 : upd H8 X3 _ = H9
          obtain ⟨s9, e9⟩ := laid g3 n3
          obtain ⟨X, hX, eX, XD⟩ : ∃ X, atI [V.ref X1, V.ref X2] (if cb = true then 1 else 0) = some (.ref X) ∧ H9 X = some (.lst (strV (ZSc cb))) ∧ X ≠ D ∧ X ≠ A1 := by
            cases cb with
            | true => exact ⟨X2, rfl, (s9 _ _ e8).trans (congrArg (fun z => some (HO.lst z)) (by decide +kernel)), fresh_ne (d6.same s7) n2⟩
            | false => exact ⟨X1, rfl, (s9 _ _ (s8 _ _ e7)).trans (congrArg (fun z => some (HO.lst z)) (by decide +kernel)), fresh_ne d6 n1⟩
          have d9 := ((d6.same s7).same s8).same s9
          have s69 : Same H6 H9 := s7.trans (s8.trans s9)
          refine ⟨_, rfl, .inr ⟨cb, rfl, X3, _, _, _, rfl, rfl, SqL.of e9, hX, .ref D, rfl, D, A1, B, m + 2, 2, rfl, d9, by omega, by decide, by decide, fun r2 H10 q0 q1 d10 k10 => ⟨1, r2, rfl, rfl, _, rfl, X, _, rfl, SqL.of (k10 _ _ eX XD.1 XD.2), fun S nS => ?_⟩⟩⟩
          have e1r : (1 + r2 : Int) = ((1 + r2.toNat : Nat) : Int) := by omega
          rw [e1r, cutV_to, strV_take]
          have k610 : Kept D A1 H6 H10 := Kept.fresh s69 k10
          have sS := same_new (o := .lst (strV ((ZSc cb).take (1 + r2.toNat)))) nS
          refine ⟨_, S, rfl, fun z hz => List.mem_of_mem_take hz, ?_, ?_, upd_same, k610.free' d10 nS, out_of d10 nS, ?_, k610.trans (Kept.of sS)⟩
          · cases cb with
            | true =>
              rw [Nat.add_comm]
              exact List.cons_ne_nil _ _
            | false =>
              rw [Nat.add_comm]
              exact List.cons_ne_nil _ _
          · rw [List.length_take]
            omega
          · have := d10.same sS
            rw [show m + 2 + 1 = m + 3 by omega] at this
            exact this
        rintro σ H7 ⟨zs, S, rfl, hzs, zne, zl, eS7, nSH, oS, d7, k7⟩
        have eLN7 := k7 _ _ eLN6 oLN.d oLN.a
        have eW7 := k7 _ _ eW oW.d oW.a
        have hdu7 := hdu6.nl (k7.nl d6)
        have tb7 := tb6.nl (k7.nl d6)
        have SL : S ≠ LN := (ne_of_none eLN6 nSH).symm
        have SW : S ≠ W := (ne_of_none eW nSH).symm
        -- the directives
        refine ⟨_, rfl, _, _, rfl, .inl (SqL.of eS7), _, rfl, by rw [strV_len]; omega, by rw [strV_len]; omega, ?_⟩
        rw [strV_len]
        refine for_range (n := zs.length) (fun j σ H8 => ∃ (ys : List (List Nat × List (List Nat))) (W' : Addr) (m2 : Int) (v10 v11 v12 v13 : Option V), σ = [some (.ref a), some (.ref D), some (.int (0 + (i : Nat))), some (.ref LN), some du, some (.int (0 + (q : Nat))), some (.int (ii : Int)), some (.bl cb), some (.ref W'), some (.ref S), v10, v11, v12, v13, v14, v15, v16, v17] ∧ ys.length = j ∧ (∀ y ∈ ys, LnF y.1 y.2 ∧ remL y.1 = cb) ∧ H8 S = some (.lst (strV (ys.map (·.1) ++ zs.drop j))) ∧ H8 W' = some (.lst (strV (ys.map (·.2)).flatten)) ∧ OutL D A1 B W' ∧ W' ≠ S ∧ W' ≠ LN ∧ (ys.map (·.2)).flatten.length ≤ 5 * j ∧ (∀ u ∈ (ys.map (·.2)).flatten, u.length ≤ 26) ∧ Drw H8 D A1 B m2 ∧ m2 ≤ m + 3 + 32 * j ∧ K3 D A1 S H7 H8) ⟨[], W, m + 3, _, _, _, _, rfl, rfl, nofun, eS7, eW7, oW, SW.symm, WL, Nat.zero_le _, nofun, d7, by omega, fun _ _ e _ _ _ => e⟩ ?_ ?_
        · rintro j σ H8 hj ⟨ys, W', m2, v10, v11, v12, v13, rfl, hys, hyo, eS8, eW8, oW', WS', WL', hwn, hwl, d8, hm2, k8⟩
          obtain ⟨z, hz⟩ : ∃ z, zs[j]? = some z := ⟨zs[j], List.getElem?_eq_getElem hj⟩
          have hdr : zs.drop j = z :: zs.drop (j + 1) := by
            rw [List.drop_eq_getElem_cons hj, (List.getElem?_eq_some_iff.mp hz).2]
          have hzc := hzs z (List.mem_of_getElem? hz)
          rw [hdr] at eS8
          have lA : (ys.map (·.1)).length = j := by rw [List.length_map, hys]
          have jq : j < 2 := by omega
          have hat : ∀ y, atI (strV (ys.map (·.1) ++ y :: zs.drop (j + 1))) (0 + (j : Nat)) = some (.str (mk y)) := fun y => by
            rw [Int.zero_add]
            refine atI_nat ?_
            have := strV_at (ys.map (·.1)) y (zs.drop (j + 1))
            rw [lA] at this
            exact this
          have hset : ∀ y l, (strV (ys.map (·.1) ++ y :: zs.drop (j + 1))).set j (.str (mk l)) = strV (ys.map (·.1) ++ l :: zs.drop (j + 1)) := fun y l => by
            have := strV_set (ys.map (·.1)) y l (zs.drop (j + 1))
            rw [lA] at this
            exact this
          have hix : ∀ y, ixN (strV (ys.map (·.1) ++ y :: zs.drop (j + 1))).length (0 + (j : Nat)) = some j := fun y => by
            rw [Int.zero_add, strV_len, List.length_append, lA, List.length_cons]
            unfold ixN
            rw [if_pos (by omega), if_pos (by omega)]
            rfl
          have fl0 : ((ys ++ [(z, ([] : List (List Nat)))]).map (·.2)).flatten = (ys.map (·.2)).flatten := by
            rw [List.map_append, List.flatten_append]
            exact List.append_nil _
          have eLN8 := k8 _ _ eLN7 oLN.d oLN.a SL.symm
          refine ⟨.ref D, rfl, D, A1, B, m2, 2, rfl, d8, by omega, by decide, by decide, fun r5 H9 _ _ d9 k9 => ⟨rfl, _, rfl, ?_⟩⟩
          have eS9 := k9 _ _ eS8 oS.d oS.a
          have eW9 := k9 _ _ eW8 oW'.d oW'.a
          have k79 := k8.kept k9
          by_cases h5 : r5 = 0
          · rw [decide_eq_true (by rw [h5])]
            refine iteT ⟨.ref D, rfl, D, A1, B, m2 + 1, rfl, d9, by omega, fun H10 M mine m3 lm hmine nM eM d10 hm3 k10 => ?_⟩
            have oM := out_of d9 nM
            have eW10 := k10 _ _ eW9 oW'.d oW'.a
            have eS10 := k10 _ _ eS9 oS.d oS.a
            refine ⟨.ref W', rfl, .ref M, rfl, W', M, _, _, rfl, rfl, eW10, eM, ?_, fun W2 nW2 => ?_⟩
            · rw [strV_len, strV_len]
              exact Nat.le_trans (show _ ≤ 100 by omega) (by decide)
            rw [strV_app]
            generalize g1 : L2.upd H10 W2 _ = H11
            obtain ⟨s11, eW2⟩ := laid g1 nW2
            have oW2 := out_of d10 nW2
            have d11 := d10.same s11
            refine ⟨.ref D, rfl, .ref M, rfl, D, A1, B, M, m3, mine, rfl, d11, by omega, s11 _ _ eM, oM.d, oM.a, lm, hmine, fun H12 T wy b m4 hwy hdir hb nT eT d12 hm4 k12 => ⟨T, _, rfl, SqT.of eT, rfl, _, _, rfl, _, _, rfl, rfl, ?_⟩⟩
            have eS12 := k12 _ _ (s11 _ _ eS10) oS.d oS.a
            have eW12 := k12 _ _ eW2 oW2.d oW2.a
            refine ⟨.ref S, rfl, .int (0 + (j : Nat)), rfl, S, _, _, .str (mk z), rfl, rfl, SqL.of eS12, ?_, .ref S, rfl, .int (0 + (j : Nat)), rfl, S, _, _, .str (mk z), rfl, rfl, SqL.of eS12, ?_, rfl, .inr ⟨_, rfl, _, _, rfl, rfl, mulOk01 ?_, ?_⟩⟩
            · exact hat z
            · exact hat z
            · split <;> simp
            · have zl3 : z.length ≤ 3 := by
                have := List.all_eq_true.mp (zs_ok cb) z hzc
                rw [Bool.and_eq_true, Bool.and_eq_true, decide_eq_true_eq] at this
                exact this.1.2
              have gl1 := (gz_ok z).2
              have wo := List.all_eq_true.mp way_ok wy hwy
              rw [Bool.and_eq_true, Bool.and_eq_true, decide_eq_true_eq] at wo
              refine ⟨_, _, rfl, rfl, ?_, .ref S, rfl, .int (0 + (j : Nat)), rfl, S, _, _, j, rfl, rfl, eS12, hix z, ?_⟩
              · have h1 : (mk z ++ Txt.mul " " (if (!decide (V.str (mk z) = V.str "")) = true then 1 else 0)).length ≤ 5 := by
                  rw [gap_z, mk_len, List.length_append]
                  omega
                rw [app_len] at h1
                exact line_of (by omega)
              rw [gap_z, hset]
              refine ⟨.ref S, rfl, .int (0 + (j : Nat)), rfl, S, _, _, .str (mk (z ++ gz z)), rfl, rfl, SqL.of upd_same, hat _, _, rfl, _, _, rfl, rfl, ?_, _, rfl, _, _, rfl, rfl, ?_, .ref S, rfl, .int (0 + (j : Nat)), rfl, S, _, _, j, rfl, rfl, upd_same, hix _, ?_⟩
              · rw [mk_len, mk_len, List.length_append]
                exact line_of (show z.length + (gz z).length + wy.1.length ≤ _ by omega)
              · rw [app_mk, mk_len, mk_len, List.length_append, List.length_append, List.length_append]
                exact line_of (show z.length + (gz z).length + wy.1.length + (wy.2.length + b.length) ≤ _ by omega)
              rw [app_mk, app_mk, hset]
              have eln : (ys ++ [(z ++ gz z ++ wy.1 ++ (wy.2 ++ b), mine)]).map (·.1) ++ zs.drop (j + 1) = ys.map (·.1) ++ (z ++ gz z ++ wy.1 ++ (wy.2 ++ b)) :: zs.drop (j + 1) := by
                rw [List.map_append, List.append_assoc]
                rfl
              have ewd : ((ys ++ [(z ++ gz z ++ wy.1 ++ (wy.2 ++ b), mine)]).map (·.2)).flatten = (ys.map (·.2)).flatten ++ mine := by
                rw [List.map_append, List.flatten_append]
                show _ ++ (mine ++ []) = _
                rw [List.append_nil]
              have W2S : W2 ≠ S := (ne_of_none eS10 nW2).symm
              refine ⟨ys ++ [(z ++ gz z ++ wy.1 ++ (wy.2 ++ b), mine)], W2, m4, _, _, _, _, rfl, by rw [List.length_append, hys]; rfl, fun y hy => ?_, ?_, ?_, oW2, W2S, (ne_of_none (k10 _ _ (k9 _ _ eLN8 oLN.d oLN.a) oLN.d oLN.a) nW2).symm, ?_, fun u hu => ?_, (d12.upd oS.d oS.a oS.b).upd oS.d oS.a oS.b, by omega, ?_⟩
              · rcases List.mem_append.mp hy with h | h
                · exact hyo y h
                · rw [List.mem_singleton.mp h]
                  exact ⟨line_dir hzc hwy hdir hb, rem_dir hzc hwy⟩
              · rw [upd_same, eln]
              · rw [upd_ne W2S, upd_ne W2S, eW12, ewd]
              · rw [ewd, List.length_append]
                omega
              · rw [ewd] at hu
                rcases List.mem_append.mp hu with h | h
                · exact hwl u h
                · exact (wordF_facts (hmine u h)).2.2.2.2
              · exact (((k79.kept k10).kept (Kept.of s11)).kept k12).upd.upd
          · rw [decide_eq_false fun e => h5 (V.int.inj e)]
            refine iteF ⟨ys ++ [(z, [])], W', m2 + 1, _, _, _, _, rfl, by rw [List.length_append, hys]; rfl, fun y hy => ?_, ?_, ?_, oW', WS', WL', ?_, fun u hu => hwl u ?_, d9, by omega, k79⟩
            · rcases List.mem_append.mp hy with h | h
              · exact hyo y h
              · rw [List.mem_singleton.mp h]
                exact ⟨line_bare hzc, rem_bare hzc⟩
            · rw [eS9, List.map_append, List.append_assoc]
              rfl
            · rw [eW9, fl0]
            · rw [fl0]
              omega
            · rw [fl0] at hu
              exact hu
        rintro σ H8 ⟨ys, W', m2, v10, v11, v12, v13, rfl, hys, hyo, eS8, eW8, oW', WS', WL', hwn, hwl, d8, hm2, k8⟩
        have eLN8 := k8 _ _ eLN7 oLN.d oLN.a SL.symm
        have hdu8 := hdu7.nl (k8.nl d7 eS7)
        have tb8 := tb7.nl (k8.nl d7 eS7)
        rw [List.drop_length, List.append_nil] at eS8
        -- what is wrong of them
        refine ⟨fun σ H9 => ∃ (fv : V), σ = [some (.ref a), some (.ref D), some (.int (0 + (i : Nat))), some (.ref LN), some du, some (.int (0 + (q : Nat))), some (.int (ii : Int)), some (.bl cb), some (.ref W'), some (.ref S), v10, v11, v12, v13, some fv, v15, v16, v17] ∧ FltAt H9 fv (faultW cb (rowsT (ys.map (·.1))) (ys.map (·.2)).flatten) ∧ Same H8 H9, ?_, ?_⟩
        · refine ⟨.ref W', rfl, _, rfl, ⟨_, rfl⟩, .ref S, rfl, S, rfl, ⟨_, SqL.of eS8⟩, fun L nL => ?_⟩
          refine lc_list (K := K) (a := S) (xs := strV (ys.map (·.1))) (fun i H2 => H2 L = some (.lst (strV (((ys.map (·.1)).take i).map (· ++ [10])))) ∧ Same H8 H2) ⟨upd_same, same_new nL⟩ (fun i H2 _ h => SqL.of (h.2 _ _ eS8)) ?_ ?_
          · rintro i2 v H2 hv ⟨eL, s2⟩
            have hju : ∃ u, (ys.map (·.1))[i2]? = some u ∧ v = .str (mk u) := by
              unfold strV at hv
              rw [List.getElem?_map, List.getElem?_map] at hv
              obtain ⟨z, hz, rfl⟩ := Option.map_eq_some_iff.mp hv
              obtain ⟨u, hu, rfl⟩ := Option.map_eq_some_iff.mp hz
              exact ⟨u, hu, rfl⟩
            obtain ⟨u, hu, rfl⟩ := hju
            obtain ⟨y, hy, rfl⟩ := List.mem_map.mp (List.mem_of_getElem? hu)
            have ly := (hyo y hy).1.len
            have hi2 : i2 < (ys.map (·.1)).length := (List.getElem?_eq_some_iff.mp hu).1
            rw [List.length_map, hys] at hi2
            refine ⟨rfl, ?_⟩
            unfold tYes
            show ite (true = true) _ _
            rw [if_pos rfl]
            refine ⟨_, rfl, _, _, rfl, rfl, ?_, _, eL, ?_, ?_, fun b o e => ?_⟩
            · rw [mk_len, nl10, mk_len]
              exact line_of (show y.1.length + 1 ≤ _ by omega)
            · rw [strV_len, List.length_map, List.length_take, List.length_map]
              exact Nat.lt_of_le_of_lt (show min i2 ys.length ≤ 4 by omega) (by decide)
            · rw [upd_same, List.take_add_one, hu, List.map_append, nl10, app_mk]
              exact congrArg (fun z => some (HO.lst z)) (strV_snoc _ _)
            · rw [upd_ne (ne_of_none e nL)]
              exact s2 b o e
          · rintro H2 ⟨eL, s2⟩
            rw [strV_len, List.take_length] at eL
            have e00 : ("" : Str) = mk [] := ext_tl (by decide +kernel)
            refine ⟨"", L, ((ys.map (·.1)).map (· ++ [10])).map mk, rfl, rfl, .inl (SqL.of eL), ?_, ?_⟩
            · have hb := sum_le (b := 200) (l := (((ys.map (·.1)).map (· ++ [10])).map mk).map (·.length)) fun x hx => by
                obtain ⟨z, hz, rfl⟩ := List.mem_map.mp hx
                obtain ⟨z2, hz2, rfl⟩ := List.mem_map.mp hz
                obtain ⟨z3, hz3, rfl⟩ := List.mem_map.mp hz2
                obtain ⟨y, hy, rfl⟩ := List.mem_map.mp hz3
                have ly := (hyo y hy).1.len
                rw [mk_len, List.length_append]
                show y.1.length + 1 ≤ 200
                omega
              have e0 : ("" : Str).length = 0 := by decide +kernel
              rw [e0, Nat.mul_zero]
              rw [List.length_map, List.length_map, List.length_map, List.length_map, hys] at hb
              have : 200 * zs.length ≤ 200 * 2 := Nat.mul_le_mul_left _ zl
              omega
            · rw [e00, join_mk]
              show sp_law_fault [.ref W', .bl cb, .str (rowsT (ys.map (·.1)))] H2 _ E0
              exact ⟨W', _, cb, _, rfl, s2 _ _ eW8, by omega, fun u hu => Nat.le_trans (hwl u hu) (by decide), fun H9 fv s9 hf => ⟨fv, rfl, hf, s2.trans s9⟩⟩
        rintro σ H9 ⟨fv, rfl, hfv, s89⟩
        have eLN9 := s89 _ _ eLN8
        have eS9 := s89 _ _ eS8
        have hdu9 := hdu8.nl (NL.same s89)
        have tb9 := tb8.same s89
        have d9 := d8.same s89
        have hpx : ∀ wt ≤ 1, PrtOk ((ii, cb, ys, wt) : Prt) := fun wt hwt => ⟨hii, fun z => by
          have z : ys = [] := z
          rw [z] at hys
          exact zne (List.length_eq_zero_iff.mp hys.symm), by show ys.length ≤ 2; omega, fun y hy => (hyo y hy).1, fun y hy => (hyo y hy).2, hwt⟩
        have hfb : faultW cb (rowsT (ys.map (·.1))) (ys.map (·.2)).flatten = badP (ys.map (·.1)) := fault_bad (hpx 0 (Nat.zero_le _))
        rw [hfb] at hfv
        have hbad2 : ∀ wt, badL 2 (es ++ [((ii, cb, ys, wt) : Prt)]) = match badL 2 es with
          | some f => some f
          | none => match badP (ys.map (·.1)) with
            | some rf => some (((LS es).length : Int) + 1, rf.1, rf.2)
            | none => none := fun wt => badL_two es _
        -- what is due
        refine ⟨fun σ H10 => ∃ (dv : V), σ = [some (.ref a), some (.ref D), some (.int (0 + (i : Nat))), some (.ref LN), some dv, some (.int (0 + (q : Nat))), some (.int (ii : Int)), some (.bl cb), some (.ref W'), some (.ref S), v10, v11, v12, v13, some fv, v15, v16, v17] ∧ (∀ wt, DueF H10 dv (badL 2 (es ++ [((ii, cb, ys, wt) : Prt)]))) ∧ Same H9 H10, ?_, ?_⟩
        · cases hb : badP (ys.map (·.1)) with
          | none =>
            rw [hb] at hfv
            have hfv : fv = .non := hfv
            subst hfv
            refine ⟨_, rfl, rfl, false, rfl, iteF (iteF ⟨du, rfl, fun wt => ?_, fun _ _ e => e⟩)⟩
            rw [hbad2, hb]
            cases hd : badL 2 es with
            | none =>
              rw [hd] at hdu9
              exact hdu9
            | some f =>
              rw [hd] at hdu9
              exact hdu9
          | some rf =>
            rw [hb] at hfv
            obtain ⟨T, rfl, eT⟩ := hfv
            refine ⟨_, rfl, rfl, true, rfl, iteT ⟨_, rfl, rfl, ?_⟩⟩
            cases hd : badL 2 es with
            | none =>
              rw [hd] at hdu9
              have hdu9 : du = .non := hdu9
              subst hdu9
              refine ⟨true, rfl, iteT ⟨.ref LN, rfl, LN, _, rfl, .inl (SqL.of eLN9), _, _, rfl, rfl, by show 1 ≤ sizeLine; decide, fun T1 n1 => ⟨.ref T, rfl, T1, T, _, _, rfl, rfl, SqT.of upd_same, SqT.of (same_new n1 _ _ eT), by simp, by show 1 + 2 ≤ sizeLine; decide, (fun z => nomatch z), fun _ T2 n2 => ⟨.ref T2, rfl, fun wt => ?_, (same_new n1).trans (same_new n2)⟩⟩⟩⟩
              rw [hbad2, hd, hb]
              refine ⟨T2, rfl, ?_⟩
              rw [upd_same, strV_len]
              rfl
            | some f =>
              rw [hd] at hdu9
              obtain ⟨Td, rfl, eTd⟩ := hdu9
              exact ⟨false, rfl, iteF ⟨.ref Td, rfl, fun wt => by rw [hbad2, hd]; exact ⟨Td, rfl, eTd⟩, fun _ _ e => e⟩⟩
        rintro σ H10 ⟨dv, rfl, hdv, s910⟩
        have eLN10 := s910 _ _ eLN9
        have eS10 := s910 _ _ eS9
        have tb10 := tb9.same s910
        have d10 := d9.same s910
        have hSR : ∀ wt, (exN ((ii, cb, ys, wt) : Prt)).rows = srows ii ((ys.map (·.1)).map fun l => (l, 32 :: l)) ++ (List.replicate wt [49]).map (sps ii ++ ·) := fun _ => rfl
        obtain ⟨SR, eSR⟩ : ∃ SR, SR = srows ii ((ys.map (·.1)).map fun l => (l, 32 :: l)) := ⟨_, rfl⟩
        have lSR : SR.length = ys.length := by rw [eSR, srows_len, List.length_map, List.length_map]
        have LSl := (LS_sz heo).2
        -- the lines
        refine ⟨.ref S, rfl, S, _, rfl, SqL.of eS10, for_enum (K := K) (a := S) (xs := strV (ys.map (·.1))) (fun j σ H11 => ∃ (v10 v15 : Option V), σ = [some (.ref a), some (.ref D), some (.int (0 + (i : Nat))), some (.ref LN), some dv, some (.int (0 + (q : Nat))), some (.int (ii : Int)), some (.bl cb), some (.ref W'), some (.ref S), v10, v11, v12, v13, some fv, v15, v16, v17] ∧ H11 LN = some (.lst (strV (LS es ++ SR.take j))) ∧ (∀ b o, H10 b = some o → b ≠ LN → H11 b = some o) ∧ Drw H11 D A1 B m2) ⟨_, _, rfl, by rw [List.take_zero, List.append_nil]; exact eLN10, fun _ _ e _ => e, d10⟩ (fun j σ H11 _ h => by
          obtain ⟨_, _, _, _, s, _⟩ := h
          exact SqL.of (s _ _ eS10 SL)) ?_ ?_⟩
        · rintro j v T σ H11 hv ⟨v10, v15, rfl, eLN11, k11, d11⟩ nT
          have hju : ∃ u, (ys.map (·.1))[j]? = some u ∧ v = .str (mk u) := by
            unfold strV at hv
            rw [List.getElem?_map, List.getElem?_map] at hv
            obtain ⟨z, hz, rfl⟩ := Option.map_eq_some_iff.mp hv
            obtain ⟨u, hu, rfl⟩ := Option.map_eq_some_iff.mp hz
            exact ⟨u, hu, rfl⟩
          obtain ⟨u, hu, rfl⟩ := hju
          obtain ⟨y, hy, rfl⟩ := List.mem_map.mp (List.mem_of_getElem? hu)
          have ly := (hyo y hy).1.len
          have hjl : j < (ys.map (·.1)).length := (List.getElem?_eq_some_iff.mp hu).1
          rw [List.length_map] at hjl
          have hrow : SR[j]? = some (srow ii (if j = 0 then P3 else D3) (32 :: y.1)) := by
            rw [eSR]
            exact srows_at (p := (y.1, 32 :: y.1)) ii (by rw [List.getElem?_map, hu]; rfl)
          have sT := same_new (o := .tup [.int (j : Nat), .str (mk y.1)]) nT
          refine ⟨T, [.int (j : Nat), .str (mk y.1)], rfl, SqT.of upd_same, rfl, _, _, rfl, _, _, rfl, rfl, ?_⟩
          generalize upd H11 T _ = H12 at sT ⊢
          have eLN12 := sT _ _ eLN11
          have hsp : (sps ii).length = ii := List.length_replicate
          have hi3 : ii ≤ 3 := by rcases hii with e | e <;> omega
          have hpr : (if j = 0 then P3 else D3).length = 3 := by split <;> rfl
          have sp32 : (" " : Str) = mk [32] := sp_one
          have hat : atI [V.str ">>>", V.str "..."] (if decide ((0 : Int) < (j : Nat)) = true then 1 else 0) = some (.str (mk (if j = 0 then P3 else D3))) := by
            rcases Nat.eq_zero_or_pos j with rfl | hj0
            · rw [if_neg (by decide), if_pos rfl, gt3]
              rfl
            · rw [if_pos (by rw [decide_eq_true_eq]; omega), if_neg (by omega), dots3]
              rfl
          generalize (if j = 0 then P3 else D3) = pr at hpr hat hrow
          refine ⟨.ref LN, rfl, .inl ⟨rfl, _, SqL.of eLN12⟩, _, rfl, _, _, rfl, rfl, mulOk_sp (by omega), by show 2 ≤ sizeLine; decide, fun G nG => ?_⟩
          have sG := same_new (o := .lst [V.str ">>>", V.str "..."]) nG
          refine ⟨_, rfl, _, _, rfl, rfl, .inr ⟨_, rfl, G, _, _, _, rfl, rfl, SqL.of upd_same, hat, _, _, rfl, rfl, ?_, _, _, rfl, rfl, ?_, _, rfl, _, _, rfl, rfl, ?_, ?_⟩⟩
          · simp only [mul_sps, app_mk, mk_len, List.length_append]
            exact line_of (by omega)
          · rw [mul_sps]
            simp only [app_mk, mk_len, List.length_append, List.length_cons, List.length_nil, sp32]
            exact line_of (by omega)
          · rw [mul_sps]
            simp only [app_mk, mk_len, List.length_append, List.length_cons, List.length_nil, sp32]
            exact line_of (show (sps ii).length + pr.length + (0 + 1) + y.1.length ≤ 1000000 by omega)
          have etx : Txt.mul " " (ii : Int) ++ mk pr ++ " " ++ mk y.1 = mk (srow ii pr (32 :: y.1)) := by
            rw [mul_sps, sp32, app_mk, app_mk, app_mk]
            unfold srow
            simp
          rw [etx]
          refine ⟨LN, _, _, rfl, rfl, sG _ _ eLN12, ?_, some (.int (j : Nat)), some (.str (mk y.1)), rfl, ?_, fun b o e nb => ?_, ((d11.same sT).same sG).upd oLN.d oLN.a oLN.b⟩
          · rw [strV_len, List.length_append, List.length_take]
            exact Nat.lt_of_le_of_lt (show _ ≤ 100 by omega) (by decide)
          · rw [upd_same, strV_snoc, List.append_assoc, List.take_add_one, hrow]
            rfl
          · rw [upd_ne nb]
            exact sG _ _ (sT _ _ (k11 _ _ e nb))
        rintro σ H11 ⟨v10, v15, rfl, eLN11, k11, d11⟩
        rw [strV_len, List.length_map, ← lSR, List.take_length] at eLN11
        have nl11 : NL H10 H11 := fun b o e no => k11 b o e fun z => by
          rw [z, eLN10] at e
          exact no _ (Option.some.inj e).symm
        have tb11 := tb10.nl nl11
        have hsp : (sps ii).length = ii := List.length_replicate
        have hi3 : ii ≤ 3 := by rcases hii with e | e <;> omega
        -- the expected line, the blank one
        refine ⟨.ref LN, rfl, .int (ii : Int), rfl, _, _, rfl, rfl, mulOk_sp (by omega), _, _, rfl, rfl, ?_, by show 1 ≤ sizeLine; decide, fun X nX => ?_⟩
        · rw [mul_sps, mk_len, hsp]
          show ii + 1 ≤ _
          exact line_of (by omega)
        have e49 : Txt.mul " " (ii : Int) ++ "1" = mk (sps ii ++ [49]) := by
          have e1 : ("1" : Str) = mk [49] := ext_tl (by decide +kernel)
          rw [mul_sps, e1, app_mk]
        rw [e49]
        generalize g1 : L2.upd H11 X _ = H12
        obtain ⟨s12, eX⟩ := laid g1 nX
        refine ⟨.ref D, rfl, D, A1, B, m2, 2, rfl, d11.same s12, by omega, by decide, by decide, fun r6 H13 p0 p1 d13 k13 => ?_⟩
        have oX := out_of d11 nX
        have eX13 := k13 _ _ eX oX.d oX.a
        have eLN13 := k13 _ _ (s12 _ _ eLN11) oLN.d oLN.a
        refine ⟨X, r6, _, rfl, rfl, eX13, by omega, by omega, ?_, fun Y nY => ?_⟩
        · show 1 * r6.toNat ≤ _
          exact Nat.le_trans (show 1 * r6.toNat ≤ 10 by omega) (by decide)
        have eRep : (List.replicate r6.toNat [V.str (mk (sps ii ++ [49]))]).flatten = strV ((List.replicate r6.toNat [49]).map (sps ii ++ ·)) := by
          unfold strV
          rw [List.map_replicate, List.map_replicate, List.map_replicate]
          generalize r6.toNat = kk
          induction kk with
          | zero => rfl
          | succ kk ih =>
            rw [List.replicate_succ, List.flatten_cons, ih, List.replicate_succ]
            rfl
        rw [eRep]
        generalize g2 : L2.upd H13 Y _ = H14
        obtain ⟨s14, eY⟩ := laid g2 nY
        refine ⟨LN, Y, _, _, rfl, rfl, s14 _ _ eLN13, eY, ?_, fun Z nZ => ?_⟩
        · rw [strV_len, strV_len, List.length_append, List.length_map, List.length_replicate]
          exact Nat.le_trans (show _ ≤ 100 by omega) (by decide)
        rw [strV_app]
        generalize g3 : L2.upd H14 Z _ = H15
        obtain ⟨s15, eZ⟩ := laid g3 nZ
        refine ⟨by show 1 ≤ sizeLine; decide, fun E1 nE => ?_⟩
        generalize g4 : L2.upd H15 E1 _ = H16
        obtain ⟨s16, eE⟩ := laid g4 nE
        refine ⟨Z, E1, _, _, rfl, rfl, s16 _ _ eZ, eE, ?_, fun L2' nL2 => ?_⟩
        · rw [strV_len, List.length_append, List.length_append, List.length_map, List.length_replicate]
          exact Nat.le_trans (show _ + 1 ≤ 100 by omega) (by decide)
        have e0 : [V.str ""] = strV [[]] := by decide +kernel
        rw [e0, strV_app] at *
        have sL := same_new (o := .lst (strV (LS es ++ SR ++ (List.replicate r6.toNat [49]).map (sps ii ++ ·) ++ [[]]))) nL2
        have d16 := ((d13.same s14).same s15).same s16
        have nlA : NL H10 (L2.upd H16 L2' (.lst (strV (LS es ++ SR ++ (List.replicate r6.toNat [49]).map (sps ii ++ ·) ++ [[]])))) := nl11.trans ((NL.same s12).trans ((k13.nl (d11.same s12)).trans (NL.same (s14.trans (s15.trans (s16.trans sL))))))
        refine ⟨es ++ [((ii, cb, ys, r6.toNat) : Prt)], L2', dv, m2 + 1, _, _, _, _, _, _, _, _, _, _, _, rfl, by rw [List.length_append, hes]; rfl, fun x hx => ?_, ?_, out_of d16 nL2, (hdv r6.toNat).nl nlA, d16.same sL, by push_cast; omega, tb10.nl nlA⟩
        · rcases List.mem_append.mp hx with h | h
          · exact heo x h
          · rw [List.mem_singleton.mp h]
            exact hpx _ (by omega)
        · rw [upd_same, LS_snoc, hSR, ← eSR, List.append_assoc, List.append_assoc, List.append_assoc]
      · rintro σ H5 ⟨es, LN, du, m, v5, v6, v7, v8, v9, v10, v11, v12, v13, v14, v15, rfl, hes, heo, eLN, oLN, hdu, d5, hm, tb5⟩
        obtain ⟨ls, init, last, pl, wh, hbad, hpc, hps, hsz⟩ := text_ok heo (by omega)
        refine ⟨by show 3 ≤ sizeLine; decide, fun T nT => ?_⟩
        generalize g1 : L2.upd H5 T _ = H6
        obtain ⟨s6, eT⟩ := laid g1 nT
        have LSl := LS_sz heo
        refine ⟨T, rfl, ⟨_, SqT.of eT⟩, for_tup (K := K) (a := T) (xs := [V.ref f_parsed, .ref f_examples_of, .ref f_script_of]) (fun j σ H7 => ∃ (v16 v17 : Option V), σ = [some (.ref a), some (.ref D), some (.int (0 + (i : Nat))), some (.ref LN), some du, v5, v6, v7, v8, v9, v10, v11, v12, v13, v14, v15, v16, v17] ∧ LamX.ExtN H6 H7 ∧ Tb Pt H7) ⟨_, _, rfl, LamX.ExtN.refl _, tb5.same s6⟩ (fun j σ H7 _ h => by
          obtain ⟨_, _, _, e, _⟩ := h
          exact SqT.of (e _ _ eT nofun)) ?_ ?_⟩
        · rintro j v σ H7 hv ⟨v16, v17, rfl, x7, tb7⟩
          refine ⟨tb7, fun H8 x8 tb8 H9 s9 => ?_⟩
          have tb9 : Tb Pt H9 := Tb.same tb8 s9
          have x9 : LamX.ExtN H6 H9 := (x7.trans x8).trans (LamX.ExtN.of s9)
          have eLN9 := x9 _ _ (s6 _ _ eLN) nofun
          have hdu9 := (hdu.nl (NL.same s6)).ext x9
          have nl10' : ("\n" : Str) = mk [10] := nl10
          have hjoin : Txt.join "\n" ((LS es).map mk) = mk (joinL [10] (LS es)) := by
            rw [nl10', join_mk]
          have hsum : (((LS es).map mk).map (·.length)).sum + ((LS es).map mk).length * ("\n" : Str).length ≤ 16777216 := by
            have hb := sum_le (b := 200) (l := ((LS es).map mk).map (·.length)) fun x hx => by
              obtain ⟨z, hz, rfl⟩ := List.mem_map.mp hx
              obtain ⟨z2, hz2, rfl⟩ := List.mem_map.mp hz
              rw [mk_len]
              exact (LSl.1 z2 hz2).2
            rw [List.length_map, List.length_map] at hb
            have h1 : ("\n" : Str).length = 1 := rfl
            rw [List.length_map, h1]
            have := LSl.2
            have : 200 * (LS es).length ≤ 200 * 18 := Nat.mul_le_mul_left _ (by omega)
            omega
          have key : ∀ (EE : XK) (QQ : VK), (∀ v H10, Same H9 H10 → badL 2 es = none → QQ v H10) → (∀ n r f H10 d, badL 2 es = some (n, r, f) → Same H9 H10 → H10 d = some (.xd [("found", .str f), ("reason", .str r), ("line", .int n)]) → EE (.ref C_BadText) (some d) H10) →
              tCallAX 16 (AskS f_parsed f_examples_of f_script_of (sp_parsed C_Example C_Comment C_BadText) (sp_examples_of C_Example C_Comment C_BadText) (sp_script_of C_Example C_Comment C_BadText)) EE (tCons (tM1 (rJoinK K) (tC (.str "\n")) (tVar 3)) tNil) [some (.ref a), some (.ref D), some (.int (0 + (i : Nat))), some (.ref LN), some du, v5, v6, v7, v8, v9, v10, v11, v12, v13, v14, v15, some v, v17] H9 QQ := by
            intro EE QQ h1 h2
            rcases j with _ | _ | _ | j
            · cases hv
              refine ⟨f_parsed, _, rfl, .inl ⟨rfl, rfl⟩, ⟨_, rfl⟩, .ref LN, rfl, "\n", LN, (LS es).map mk, rfl, rfl, .inl (SqL.of eLN9), hsum, ?_⟩
              rw [hjoin]
              exact ⟨_, ls, init, last, rfl, wh, fun hb H10 L us s10 _ _ _ => h1 _ _ s10 (hbad.symm.trans hb), fun n2 r2 f2 hb H10 d s10 _ ed => h2 _ _ _ _ _ (hbad.symm.trans hb) s10 ed⟩
            · cases hv
              refine ⟨f_examples_of, _, rfl, .inr (.inl ⟨rfl, rfl⟩), ⟨_, rfl⟩, .ref LN, rfl, "\n", LN, (LS es).map mk, rfl, rfl, .inl (SqL.of eLN9), hsum, ?_⟩
              rw [hjoin]
              exact ⟨_, ls, init, last, rfl, wh, hpc, fun hb H10 L us s10 _ _ _ => h1 _ _ s10 (hbad.symm.trans hb), fun n2 r2 f2 hb H10 d s10 _ ed => h2 _ _ _ _ _ (hbad.symm.trans hb) s10 ed⟩
            · cases hv
              refine ⟨f_script_of, _, rfl, .inr (.inr ⟨rfl, rfl⟩), ⟨_, rfl⟩, .ref LN, rfl, "\n", LN, (LS es).map mk, rfl, rfl, .inl (SqL.of eLN9), hsum, ?_⟩
              rw [hjoin]
              exact ⟨_, ls, init, last, pl, rfl, wh, fun H us hp => hps _ _ H us hp, hsz, fun hb H10 s10 => h1 _ _ s10 (hbad.symm.trans hb), fun n2 r2 f2 hb H10 d s10 _ ed => h2 _ _ _ _ _ (hbad.symm.trans hb) s10 ed⟩
            · cases hv
          refine key _ _ (fun v2 H10 s10 hb H11 T2 s11 _ e2 => ?_) (fun n2 r2 f2 H10 d hb s10 ed => ⟨rfl, d, _, _, _, rfl, ed, fun H11 T2 s11 _ e2 => ?_⟩)
          · rw [hb] at hdu9
            have hdu9 : du = .non := hdu9
            subst hdu9
            refine ⟨_, rfl, rfl, true, rfl, iteT ⟨.ref T2, rfl, T2, [.str "told", v2], 0, .str "told", rfl, rfl, SqT.of e2, rfl, rfl, false, rfl, iteF ⟨_, rfl, rfl, false, rfl, iteF (iteF ⟨_, _, rfl, x9.trans (LamX.ExtN.of (s10.trans s11)), tb9.same (s10.trans s11)⟩)⟩⟩⟩
          · rw [hb] at hdu9
            obtain ⟨Td, rfl, eTd⟩ := hdu9
            have eTd11 := s11 _ _ (s10 _ _ eTd)
            have hsm : Sm H11 6 (.ref T2) (.ref Td) := by
              refine .inr ⟨T2, Td, _, _, rfl, rfl, .inr ⟨e2, eTd11⟩, .cons (.inl ⟨.inr (.inr (.inl ⟨_, rfl⟩)), rfl⟩) (.cons (.inl ⟨.inr (.inl ⟨_, rfl⟩), rfl⟩) (.cons (.inl ⟨.inr (.inl ⟨_, rfl⟩), rfl⟩) .nil)), ?_⟩
              show 3 ≤ 1000
              decide
            refine ⟨_, rfl, rfl, false, rfl, iteF (iteF ⟨_, rfl, rfl, true, rfl, iteT ⟨.ref T2, rfl, .ref Td, rfl, _, _, rfl, hsm, fun H12 s12 => ⟨true, rfl, iteF ⟨_, _, rfl, x9.trans (LamX.ExtN.of ((s10.trans s11).trans s12)), tb9.same ((s10.trans s11).trans s12)⟩⟩⟩⟩)⟩
        · rintro σ H7 ⟨v16, v17, rfl, x7, tb7⟩
          exact ⟨m, _, _, _, _, _, _, _, _, _, _, _, _, _, _, _, _, rfl, (d5.same s6).ext x7, by push_cast; omega, tb7⟩
    · rintro σ H2 ⟨n, v2, v3, v4, v5, v6, v7, v8, v9, v10, v11, v12, v13, v14, v15, v16, v17, rfl, dr, hn, tb⟩
      exact k H2
end
set_option maxHeartbeats 0
theorem all_mk {l : PySem.W.OpenLaw} {w : World} {K : PySem.W.Frag} {h : Heap} {mg : Str → Option Value} {fa : Addr} {f0 : Addr} {od0 an0 : Option Addr} {sl0 : Array (Option Value)} {oc0 kV0 dc0 pm0 cd0 ct0 : Value}
    {f1 : Addr} {od1 an1 : Option Addr} {sl1 : Array (Option Value)} {oc1 kV1 dc1 pm1 cd1 ct1 : Value}
    {f2 : Addr} {od2 an2 : Option Addr} {sl2 : Array (Option Value)} {oc2 kV2 dc2 pm2 cd2 ct2 : Value}
    {f3 : Addr} {od3 an3 : Option Addr} {sl3 : Array (Option Value)} {oc3 kV3 dc3 pm3 cd3 ct3 : Value}
    {f4 : Addr} {od4 an4 : Option Addr} {sl4 : Array (Option Value)} {oc4 kV4 dc4 pm4 cd4 ct4 : Value}
    {f5 : Addr} {od5 an5 : Option Addr} {sl5 : Array (Option Value)} {oc5 kV5 dc5 pm5 cd5 ct5 : Value}
    {f6 : Addr} {od6 an6 : Option Addr} {sl6 : Array (Option Value)} {oc6 kV6 dc6 pm6 cd6 ct6 : Value}
    {f7 : Addr} {od7 an7 : Option Addr} {sl7 : Array (Option Value)} {oc7 kV7 dc7 pm7 cd7 ct7 : Value}
    {f8 : Addr} {od8 an8 : Option Addr} {sl8 : Array (Option Value)} {oc8 kV8 dc8 pm8 cd8 ct8 : Value}
    {f9 : Addr} {od9 an9 : Option Addr} {sl9 : Array (Option Value)} {oc9 kV9 dc9 pm9 cd9 ct9 : Value}
    {f10 : Addr} {od10 an10 : Option Addr} {sl10 : Array (Option Value)} {oc10 kV10 dc10 pm10 cd10 ct10 : Value}
    {f11 : Addr} {od11 an11 : Option Addr} {sl11 : Array (Option Value)} {oc11 kV11 dc11 pm11 cd11 ct11 : Value}
    {f12 : Addr} {od12 an12 : Option Addr} {sl12 : Array (Option Value)} {oc12 kV12 dc12 pm12 cd12 ct12 : Value}
    {f13 : Addr} {od13 an13 : Option Addr} {sl13 : Array (Option Value)} {oc13 kV13 dc13 pm13 cd13 ct13 : Value}
    {f14 : Addr} {od14 an14 : Option Addr} {sl14 : Array (Option Value)} {oc14 kV14 dc14 pm14 cd14 ct14 : Value}
    {f15 : Addr} {od15 an15 : Option Addr} {sl15 : Array (Option Value)} {oc15 kV15 dc15 pm15 cd15 ct15 : Value}
    {f16 : Addr} {od16 an16 : Option Addr} {sl16 : Array (Option Value)} {oc16 kV16 dc16 pm16 cd16 ct16 : Value}
    {f17 : Addr} {od17 an17 : Option Addr} {sl17 : Array (Option Value)} {oc17 kV17 dc17 pm17 cd17 ct17 : Value}
    {f18 : Addr} {od18 an18 : Option Addr} {sl18 : Array (Option Value)} {oc18 kV18 dc18 pm18 cd18 ct18 : Value}
    {f19 : Addr} {od19 an19 : Option Addr} {sl19 : Array (Option Value)} {oc19 kV19 dc19 pm19 cd19 ct19 : Value}
    {f20 : Addr} {od20 an20 : Option Addr} {sl20 : Array (Option Value)} {oc20 kV20 dc20 pm20 cd20 ct20 : Value}
    {f21 : Addr} {od21 an21 : Option Addr} {sl21 : Array (Option Value)} {oc21 kV21 dc21 pm21 cd21 ct21 : Value}
    {f22 : Addr} {od22 an22 : Option Addr} {sl22 : Array (Option Value)} {oc22 kV22 dc22 pm22 cd22 ct22 : Value}
    {f23 : Addr} {od23 an23 : Option Addr} {sl23 : Array (Option Value)} {oc23 kV23 dc23 pm23 cd23 ct23 : Value}
    {f24 : Addr} {od24 an24 : Option Addr} {sl24 : Array (Option Value)} {oc24 kV24 dc24 pm24 cd24 ct24 : Value}
    {f25 : Addr} {od25 an25 : Option Addr} {sl25 : Array (Option Value)} {oc25 kV25 dc25 pm25 cd25 ct25 : Value}
    {f26 : Addr} {od26 an26 : Option Addr} {sl26 : Array (Option Value)} {oc26 kV26 dc26 pm26 cd26 ct26 : Value}
    {f27 : Addr} {od27 an27 : Option Addr} {sl27 : Array (Option Value)} {oc27 kV27 dc27 pm27 cd27 ct27 : Value}
    {f28 : Addr} {od28 an28 : Option Addr} {sl28 : Array (Option Value)} {oc28 kV28 dc28 pm28 cd28 ct28 : Value}
    {f29 : Addr} {od29 an29 : Option Addr} {sl29 : Array (Option Value)} {oc29 kV29 dc29 pm29 cd29 ct29 : Value}
    {f30 : Addr} {od30 an30 : Option Addr} {sl30 : Array (Option Value)} {oc30 kV30 dc30 pm30 cd30 ct30 : Value}
    {f31 : Addr} {od31 an31 : Option Addr} {sl31 : Array (Option Value)} {oc31 kV31 dc31 pm31 cd31 ct31 : Value}
    {f32 : Addr} {od32 an32 : Option Addr} {sl32 : Array (Option Value)} {oc32 kV32 dc32 pm32 cd32 ct32 : Value}
    {f33 : Addr} {od33 an33 : Option Addr} {sl33 : Array (Option Value)} {oc33 kV33 dc33 pm33 cd33 ct33 : Value}
    {f34 : Addr} {od34 an34 : Option Addr} {sl34 : Array (Option Value)} {oc34 kV34 dc34 pm34 cd34 ct34 : Value}
    {f35 : Addr} {od35 an35 : Option Addr} {sl35 : Array (Option Value)} {oc35 kV35 dc35 pm35 cd35 ct35 : Value}
    {f36 : Addr} {od36 an36 : Option Addr} {sl36 : Array (Option Value)} {oc36 kV36 dc36 pm36 cd36 ct36 : Value}
    {f37 : Addr} {od37 an37 : Option Addr} {sl37 : Array (Option Value)} {oc37 kV37 dc37 pm37 cd37 ct37 : Value}
    {f38 : Addr} {od38 an38 : Option Addr} {sl38 : Array (Option Value)} {oc38 kV38 dc38 pm38 cd38 ct38 : Value}
    {f39 : Addr} {od39 an39 : Option Addr} {sl39 : Array (Option Value)} {oc39 kV39 dc39 pm39 cd39 ct39 : Value}
    {f40 : Addr} {od40 an40 : Option Addr} {sl40 : Array (Option Value)} {oc40 kV40 dc40 pm40 cd40 ct40 : Value}
    {f41 : Addr} {od41 an41 : Option Addr} {sl41 : Array (Option Value)} {oc41 kV41 dc41 pm41 cd41 ct41 : Value}
    {f42 : Addr} {od42 an42 : Option Addr} {sl42 : Array (Option Value)} {oc42 kV42 dc42 pm42 cd42 ct42 : Value}
    {f43 : Addr} {od43 an43 : Option Addr} {sl43 : Array (Option Value)} {oc43 kV43 dc43 pm43 ct43 : Value} {cL Pt : Addr} {tcc : Value} {tcd : Option Addr} {tvs : Array Value} {tcs : Array (Option Value)}
    {f44 : Addr} {od44 an44 : Option Addr} {sl44 : Array (Option Value)} {oc44 kV44 dc44 pm44 cd44 ct44 : Value}
    {f45 : Addr} {od45 an45 : Option Addr} {sl45 : Array (Option Value)} {oc45 kV45 dc45 pm45 cd45 ct45 : Value}
    {tk45_0 : Tok}
    {T45 : Addr} {Tc45 : Value} {Td45 : Option Addr} {Tn45 : Nat} {Ts45 : Array (Option Value)}
    {f46 : Addr} {od46 an46 : Option Addr} {sl46 : Array (Option Value)} {oc46 kV46 dc46 pm46 cd46 ct46 : Value}
    {tk46_0 : Tok}
    {T46 : Addr} {Tc46 : Value} {Td46 : Option Addr} {Tn46 : Nat} {Ts46 : Array (Option Value)}
    {C_Example : Addr}
    {C_Comment : Addr}
    {C_BadText N_BadText : Addr} {en_BadText eq_BadText : Str} {eb_BadText es_BadText : List Value} {em_BadText : List Str} {ea_BadText : Bool} {ec_BadText : Option Bool} {ed_BadText : Option Addr} {k0_BadText k1_BadText k2_BadText k3_BadText k5_BadText : Option Value}
    {C_PromptError : Addr}
    {t_AHEAD : Tok}
    {t_BLANKS : Tok}
    {a_FLAGS : Addr} {ad_FLAGS : Option Addr} {an_FLAGS : Nat} {as_FLAGS : Array (Option Value)} {t_FLAGS0 t_FLAGS1 t_FLAGS2 t_FLAGS3 t_FLAGS4 t_FLAGS5 t_FLAGS6 t_FLAGS7 : Tok}
    {t_FURTHER : Tok}
    {a_HEADERS : Addr} {ad_HEADERS : Option Addr} {an_HEADERS : Nat} {as_HEADERS : Array (Option Value)} {t_HEADERS0 t_HEADERS1 : Tok}
    {t_MARK : Tok}
    {t_NOTHING : Tok}
    {t_PROMPT : Tok}
    {t_TAB : Tok} (X : K.In h) (G : h.Ns mainGlobals mg) (hfa : mg "law" = some (.ref fa)) (own : LamX.OwnTab K fa h)
    (a0 : PySem.W.nsIn K mainGlobals "held" = some (some (.ref f0))) (l0 : K.lookup f0 = some ⟨oc0, od0, .func (PySem.W.fnOf "held" "held" (defArgs s_held) (defBody s_held) (defScope s_held) .none kV0 dc0 pm0 an0 cd0 ct0), sl0⟩) (e0 : PySem.W.codeIn K cd0 "held" = true) (k0 : PySem.W.keepIn K (.ref f0) = true)
    (a1 : PySem.W.nsIn K mainGlobals "kept_lines" = some (some (.ref f1))) (l1 : K.lookup f1 = some ⟨oc1, od1, .func (PySem.W.fnOf "kept_lines" "kept_lines" (defArgs s_kept_lines) (defBody s_kept_lines) (defScope s_kept_lines) .none kV1 dc1 pm1 an1 cd1 ct1), sl1⟩) (e1 : PySem.W.codeIn K cd1 "kept_lines" = true) (k1 : PySem.W.keepIn K (.ref f1) = true)
    (a2 : PySem.W.nsIn K mainGlobals "lines_of" = some (some (.ref f2))) (l2 : K.lookup f2 = some ⟨oc2, od2, .func (PySem.W.fnOf "lines_of" "lines_of" (defArgs s_lines_of) (defBody s_lines_of) (defScope s_lines_of) .none kV2 dc2 pm2 an2 cd2 ct2), sl2⟩) (e2 : PySem.W.codeIn K cd2 "lines_of" = true) (k2 : PySem.W.keepIn K (.ref f2) = true)
    (a3 : PySem.W.nsIn K mainGlobals "fed" = some (some (.ref f3))) (l3 : K.lookup f3 = some ⟨oc3, od3, .func (PySem.W.fnOf "fed" "fed" (defArgs s_fed) (defBody s_fed) (defScope s_fed) .none kV3 dc3 pm3 an3 cd3 ct3), sl3⟩) (e3 : PySem.W.codeIn K cd3 "fed" = true) (k3 : PySem.W.keepIn K (.ref f3) = true)
    (a4 : PySem.W.nsIn K mainGlobals "indent_of" = some (some (.ref f4))) (l4 : K.lookup f4 = some ⟨oc4, od4, .func (PySem.W.fnOf "indent_of" "indent_of" (defArgs s_indent_of) (defBody s_indent_of) (defScope s_indent_of) .none kV4 dc4 pm4 an4 cd4 ct4), sl4⟩) (e4 : PySem.W.codeIn K cd4 "indent_of" = true) (k4 : PySem.W.keepIn K (.ref f4) = true)
    (a5 : PySem.W.nsIn K mainGlobals "is_blank" = some (some (.ref f5))) (l5 : K.lookup f5 = some ⟨oc5, od5, .func (PySem.W.fnOf "is_blank" "is_blank" (defArgs s_is_blank) (defBody s_is_blank) (defScope s_is_blank) .none kV5 dc5 pm5 an5 cd5 ct5), sl5⟩) (e5 : PySem.W.codeIn K cd5 "is_blank" = true) (k5 : PySem.W.keepIn K (.ref f5) = true)
    (a6 : PySem.W.nsIn K mainGlobals "words_of" = some (some (.ref f6))) (l6 : K.lookup f6 = some ⟨oc6, od6, .func (PySem.W.fnOf "words_of" "words_of" (defArgs s_words_of) (defBody s_words_of) (defScope s_words_of) .none kV6 dc6 pm6 an6 cd6 ct6), sl6⟩) (e6 : PySem.W.codeIn K cd6 "words_of" = true) (k6 : PySem.W.keepIn K (.ref f6) = true)
    (a7 : PySem.W.nsIn K mainGlobals "begins" = some (some (.ref f7))) (l7 : K.lookup f7 = some ⟨oc7, od7, .func (PySem.W.fnOf "begins" "begins" (defArgs s_begins) (defBody s_begins) (defScope s_begins) .none kV7 dc7 pm7 an7 cd7 ct7), sl7⟩) (e7 : PySem.W.codeIn K cd7 "begins" = true) (k7 : PySem.W.keepIn K (.ref f7) = true)
    (a8 : PySem.W.nsIn K mainGlobals "cuts_of" = some (some (.ref f8))) (l8 : K.lookup f8 = some ⟨oc8, od8, .func (PySem.W.fnOf "cuts_of" "cuts_of" (defArgs s_cuts_of) (defBody s_cuts_of) (defScope s_cuts_of) .none kV8 dc8 pm8 an8 cd8 ct8), sl8⟩) (e8 : PySem.W.codeIn K cd8 "cuts_of" = true) (k8 : PySem.W.keepIn K (.ref f8) = true)
    (a9 : PySem.W.nsIn K mainGlobals "behind_source" = some (some (.ref f9))) (l9 : K.lookup f9 = some ⟨oc9, od9, .func (PySem.W.fnOf "behind_source" "behind_source" (defArgs s_behind_source) (defBody s_behind_source) (defScope s_behind_source) .none kV9 dc9 pm9 an9 cd9 ct9), sl9⟩) (e9 : PySem.W.codeIn K cd9 "behind_source" = true) (k9 : PySem.W.keepIn K (.ref f9) = true)
    (a10 : PySem.W.nsIn K mainGlobals "behind_expected" = some (some (.ref f10))) (l10 : K.lookup f10 = some ⟨oc10, od10, .func (PySem.W.fnOf "behind_expected" "behind_expected" (defArgs s_behind_expected) (defBody s_behind_expected) (defScope s_behind_expected) .none kV10 dc10 pm10 an10 cd10 ct10), sl10⟩) (e10 : PySem.W.codeIn K cd10 "behind_expected" = true) (k10 : PySem.W.keepIn K (.ref f10) = true)
    (a11 : PySem.W.nsIn K mainGlobals "refuse_wrong_lines" = some (some (.ref f11))) (l11 : K.lookup f11 = some ⟨oc11, od11, .func (PySem.W.fnOf "refuse_wrong_lines" "refuse_wrong_lines" (defArgs s_refuse_wrong_lines) (defBody s_refuse_wrong_lines) (defScope s_refuse_wrong_lines) .none kV11 dc11 pm11 an11 cd11 ct11), sl11⟩) (e11 : PySem.W.codeIn K cd11 "refuse_wrong_lines" = true) (k11 : PySem.W.keepIn K (.ref f11) = true)
    (a12 : PySem.W.nsIn K mainGlobals "refuse_wrong_indents" = some (some (.ref f12))) (l12 : K.lookup f12 = some ⟨oc12, od12, .func (PySem.W.fnOf "refuse_wrong_indents" "refuse_wrong_indents" (defArgs s_refuse_wrong_indents) (defBody s_refuse_wrong_indents) (defScope s_refuse_wrong_indents) .none kV12 dc12 pm12 an12 cd12 ct12), sl12⟩) (e12 : PySem.W.codeIn K cd12 "refuse_wrong_indents" = true) (k12 : PySem.W.keepIn K (.ref f12) = true)
    (a13 : PySem.W.nsIn K mainGlobals "is_flag" = some (some (.ref f13))) (l13 : K.lookup f13 = some ⟨oc13, od13, .func (PySem.W.fnOf "is_flag" "is_flag" (defArgs s_is_flag) (defBody s_is_flag) (defScope s_is_flag) .none kV13 dc13 pm13 an13 cd13 ct13), sl13⟩) (e13 : PySem.W.codeIn K cd13 "is_flag" = true) (k13 : PySem.W.keepIn K (.ref f13) = true)
    (a14 : PySem.W.nsIn K mainGlobals "require_flags" = some (some (.ref f14))) (l14 : K.lookup f14 = some ⟨oc14, od14, .func (PySem.W.fnOf "require_flags" "require_flags" (defArgs s_require_flags) (defBody s_require_flags) (defScope s_require_flags) .none kV14 dc14 pm14 an14 cd14 ct14), sl14⟩) (e14 : PySem.W.codeIn K cd14 "require_flags" = true) (k14 : PySem.W.keepIn K (.ref f14) = true)
    (a15 : PySem.W.nsIn K mainGlobals "directive_of" = some (some (.ref f15))) (l15 : K.lookup f15 = some ⟨oc15, od15, .func (PySem.W.fnOf "directive_of" "directive_of" (defArgs s_directive_of) (defBody s_directive_of) (defScope s_directive_of) .none kV15 dc15 pm15 an15 cd15 ct15), sl15⟩) (e15 : PySem.W.codeIn K cd15 "directive_of" = true) (k15 : PySem.W.keepIn K (.ref f15) = true)
    (a16 : PySem.W.nsIn K mainGlobals "directive_words" = some (some (.ref f16))) (l16 : K.lookup f16 = some ⟨oc16, od16, .func (PySem.W.fnOf "directive_words" "directive_words" (defArgs s_directive_words) (defBody s_directive_words) (defScope s_directive_words) .none kV16 dc16 pm16 an16 cd16 ct16), sl16⟩) (e16 : PySem.W.codeIn K cd16 "directive_words" = true) (k16 : PySem.W.keepIn K (.ref f16) = true)
    (a17 : PySem.W.nsIn K mainGlobals "is_option_word" = some (some (.ref f17))) (l17 : K.lookup f17 = some ⟨oc17, od17, .func (PySem.W.fnOf "is_option_word" "is_option_word" (defArgs s_is_option_word) (defBody s_is_option_word) (defScope s_is_option_word) .none kV17 dc17 pm17 an17 cd17 ct17), sl17⟩) (e17 : PySem.W.codeIn K cd17 "is_option_word" = true) (k17 : PySem.W.keepIn K (.ref f17) = true)
    (a18 : PySem.W.nsIn K mainGlobals "options_of" = some (some (.ref f18))) (l18 : K.lookup f18 = some ⟨oc18, od18, .func (PySem.W.fnOf "options_of" "options_of" (defArgs s_options_of) (defBody s_options_of) (defScope s_options_of) .none kV18 dc18 pm18 an18 cd18 ct18), sl18⟩) (e18 : PySem.W.codeIn K cd18 "options_of" = true) (k18 : PySem.W.keepIn K (.ref f18) = true)
    (a19 : PySem.W.nsIn K mainGlobals "bare_of" = some (some (.ref f19))) (l19 : K.lookup f19 = some ⟨oc19, od19, .func (PySem.W.fnOf "bare_of" "bare_of" (defArgs s_bare_of) (defBody s_bare_of) (defScope s_bare_of) .none kV19 dc19 pm19 an19 cd19 ct19), sl19⟩) (e19 : PySem.W.codeIn K cd19 "bare_of" = true) (k19 : PySem.W.keepIn K (.ref f19) = true)
    (a20 : PySem.W.nsIn K mainGlobals "bare_line" = some (some (.ref f20))) (l20 : K.lookup f20 = some ⟨oc20, od20, .func (PySem.W.fnOf "bare_line" "bare_line" (defArgs s_bare_line) (defBody s_bare_line) (defScope s_bare_line) .none kV20 dc20 pm20 an20 cd20 ct20), sl20⟩) (e20 : PySem.W.codeIn K cd20 "bare_line" = true) (k20 : PySem.W.keepIn K (.ref f20) = true)
    (a21 : PySem.W.nsIn K mainGlobals "is_remark" = some (some (.ref f21))) (l21 : K.lookup f21 = some ⟨oc21, od21, .func (PySem.W.fnOf "is_remark" "is_remark" (defArgs s_is_remark) (defBody s_is_remark) (defScope s_is_remark) .none kV21 dc21 pm21 an21 cd21 ct21), sl21⟩) (e21 : PySem.W.codeIn K cd21 "is_remark" = true) (k21 : PySem.W.keepIn K (.ref f21) = true)
    (a22 : PySem.W.nsIn K mainGlobals "widened" = some (some (.ref f22))) (l22 : K.lookup f22 = some ⟨oc22, od22, .func (PySem.W.fnOf "widened" "widened" (defArgs s_widened) (defBody s_widened) (defScope s_widened) .none kV22 dc22 pm22 an22 cd22 ct22), sl22⟩) (e22 : PySem.W.codeIn K cd22 "widened" = true) (k22 : PySem.W.keepIn K (.ref f22) = true)
    (a23 : PySem.W.nsIn K mainGlobals "levelled" = some (some (.ref f23))) (l23 : K.lookup f23 = some ⟨oc23, od23, .func (PySem.W.fnOf "levelled" "levelled" (defArgs s_levelled) (defBody s_levelled) (defScope s_levelled) .none kV23 dc23 pm23 an23 cd23 ct23), sl23⟩) (e23 : PySem.W.codeIn K cd23 "levelled" = true) (k23 : PySem.W.keepIn K (.ref f23) = true)
    (a24 : PySem.W.nsIn K mainGlobals "parsed" = some (some (.ref f24))) (l24 : K.lookup f24 = some ⟨oc24, od24, .func (PySem.W.fnOf "parsed" "parsed" (defArgs s_parsed) (defBody s_parsed) (defScope s_parsed) .none kV24 dc24 pm24 an24 cd24 ct24), sl24⟩) (e24 : PySem.W.codeIn K cd24 "parsed" = true) (k24 : PySem.W.keepIn K (.ref f24) = true)
    (a25 : PySem.W.nsIn K mainGlobals "piece_at" = some (some (.ref f25))) (l25 : K.lookup f25 = some ⟨oc25, od25, .func (PySem.W.fnOf "piece_at" "piece_at" (defArgs s_piece_at) (defBody s_piece_at) (defScope s_piece_at) .none kV25 dc25 pm25 an25 cd25 ct25), sl25⟩) (e25 : PySem.W.codeIn K cd25 "piece_at" = true) (k25 : PySem.W.keepIn K (.ref f25) = true)
    (a26 : PySem.W.nsIn K mainGlobals "examples_of" = some (some (.ref f26))) (l26 : K.lookup f26 = some ⟨oc26, od26, .func (PySem.W.fnOf "examples_of" "examples_of" (defArgs s_examples_of) (defBody s_examples_of) (defScope s_examples_of) .none kV26 dc26 pm26 an26 cd26 ct26), sl26⟩) (e26 : PySem.W.codeIn K cd26 "examples_of" = true) (k26 : PySem.W.keepIn K (.ref f26) = true)
    (a27 : PySem.W.nsIn K mainGlobals "error_of" = some (some (.ref f27))) (l27 : K.lookup f27 = some ⟨oc27, od27, .func (PySem.W.fnOf "error_of" "error_of" (defArgs s_error_of) (defBody s_error_of) (defScope s_error_of) .none kV27 dc27 pm27 an27 cd27 ct27), sl27⟩) (e27 : PySem.W.codeIn K cd27 "error_of" = true) (k27 : PySem.W.keepIn K (.ref f27) = true)
    (a28 : PySem.W.nsIn K mainGlobals "is_word_sign" = some (some (.ref f28))) (l28 : K.lookup f28 = some ⟨oc28, od28, .func (PySem.W.fnOf "is_word_sign" "is_word_sign" (defArgs s_is_word_sign) (defBody s_is_word_sign) (defScope s_is_word_sign) .none kV28 dc28 pm28 an28 cd28 ct28), sl28⟩) (e28 : PySem.W.codeIn K cd28 "is_word_sign" = true) (k28 : PySem.W.keepIn K (.ref f28) = true)
    (a29 : PySem.W.nsIn K mainGlobals "script_of" = some (some (.ref f29))) (l29 : K.lookup f29 = some ⟨oc29, od29, .func (PySem.W.fnOf "script_of" "script_of" (defArgs s_script_of) (defBody s_script_of) (defScope s_script_of) .none kV29 dc29 pm29 an29 cd29 ct29), sl29⟩) (e29 : PySem.W.codeIn K cd29 "script_of" = true) (k29 : PySem.W.keepIn K (.ref f29) = true)
    (a30 : PySem.W.nsIn K mainGlobals "parts_of" = some (some (.ref f30))) (l30 : K.lookup f30 = some ⟨oc30, od30, .func (PySem.W.fnOf "parts_of" "parts_of" (defArgs s_parts_of) (defBody s_parts_of) (defScope s_parts_of) .none kV30 dc30 pm30 an30 cd30 ct30), sl30⟩) (e30 : PySem.W.codeIn K cd30 "parts_of" = true) (k30 : PySem.W.keepIn K (.ref f30) = true)
    (a31 : PySem.W.nsIn K mainGlobals "remark_of" = some (some (.ref f31))) (l31 : K.lookup f31 = some ⟨oc31, od31, .func (PySem.W.fnOf "remark_of" "remark_of" (defArgs s_remark_of) (defBody s_remark_of) (defScope s_remark_of) .none kV31 dc31 pm31 an31 cd31 ct31), sl31⟩) (e31 : PySem.W.codeIn K cd31 "remark_of" = true) (k31 : PySem.W.keepIn K (.ref f31) = true)
    (a32 : PySem.W.nsIn K mainGlobals "_law_draws" = some (some (.ref f32))) (l32 : K.lookup f32 = some ⟨oc32, od32, .func (PySem.W.fnOf "_law_draws" "_law_draws" (defArgs s_law_draws) (defBody s_law_draws) (defScope s_law_draws) .none kV32 dc32 pm32 an32 cd32 ct32), sl32⟩) (e32 : PySem.W.codeIn K cd32 "_law_draws" = true) (k32 : PySem.W.keepIn K (.ref f32) = true)
    (a33 : PySem.W.nsIn K mainGlobals "_law_mixed" = some (some (.ref f33))) (l33 : K.lookup f33 = some ⟨oc33, od33, .func (PySem.W.fnOf "_law_mixed" "_law_mixed" (defArgs s_law_mixed) (defBody s_law_mixed) (defScope s_law_mixed) .none kV33 dc33 pm33 an33 cd33 ct33), sl33⟩) (e33 : PySem.W.codeIn K cd33 "_law_mixed" = true) (k33 : PySem.W.keepIn K (.ref f33) = true)
    (a34 : PySem.W.nsIn K mainGlobals "_law_take" = some (some (.ref f34))) (l34 : K.lookup f34 = some ⟨oc34, od34, .func (PySem.W.fnOf "_law_take" "_law_take" (defArgs s_law_take) (defBody s_law_take) (defScope s_law_take) .none kV34 dc34 pm34 an34 cd34 ct34), sl34⟩) (e34 : PySem.W.codeIn K cd34 "_law_take" = true) (k34 : PySem.W.keepIn K (.ref f34) = true)
    (a35 : PySem.W.nsIn K mainGlobals "_law_same" = some (some (.ref f35))) (l35 : K.lookup f35 = some ⟨oc35, od35, .func (PySem.W.fnOf "_law_same" "_law_same" (defArgs s_law_same) (defBody s_law_same) (defScope s_law_same) .none kV35 dc35 pm35 an35 cd35 ct35), sl35⟩) (e35 : PySem.W.codeIn K cd35 "_law_same" = true) (k35 : PySem.W.keepIn K (.ref f35) = true)
    (a36 : PySem.W.nsIn K mainGlobals "_law_pick" = some (some (.ref f36))) (l36 : K.lookup f36 = some ⟨oc36, od36, .func (PySem.W.fnOf "_law_pick" "_law_pick" (defArgs s_law_pick) (defBody s_law_pick) (defScope s_law_pick) .none kV36 dc36 pm36 an36 cd36 ct36), sl36⟩) (e36 : PySem.W.codeIn K cd36 "_law_pick" = true) (k36 : PySem.W.keepIn K (.ref f36) = true)
    (a37 : PySem.W.nsIn K mainGlobals "_law_flags" = some (some (.ref f37))) (l37 : K.lookup f37 = some ⟨oc37, od37, .func (PySem.W.fnOf "_law_flags" "_law_flags" (defArgs s_law_flags) (defBody s_law_flags) (defScope s_law_flags) .none kV37 dc37 pm37 an37 cd37 ct37), sl37⟩) (e37 : PySem.W.codeIn K cd37 "_law_flags" = true) (k37 : PySem.W.keepIn K (.ref f37) = true)
    (a38 : PySem.W.nsIn K mainGlobals "_law_wrong" = some (some (.ref f38))) (l38 : K.lookup f38 = some ⟨oc38, od38, .func (PySem.W.fnOf "_law_wrong" "_law_wrong" (defArgs s_law_wrong) (defBody s_law_wrong) (defScope s_law_wrong) .none kV38 dc38 pm38 an38 cd38 ct38), sl38⟩) (e38 : PySem.W.codeIn K cd38 "_law_wrong" = true) (k38 : PySem.W.keepIn K (.ref f38) = true)
    (a39 : PySem.W.nsIn K mainGlobals "_law_directive" = some (some (.ref f39))) (l39 : K.lookup f39 = some ⟨oc39, od39, .func (PySem.W.fnOf "_law_directive" "_law_directive" (defArgs s_law_directive) (defBody s_law_directive) (defScope s_law_directive) .none kV39 dc39 pm39 an39 cd39 ct39), sl39⟩) (e39 : PySem.W.codeIn K cd39 "_law_directive" = true) (k39 : PySem.W.keepIn K (.ref f39) = true)
    (a40 : PySem.W.nsIn K mainGlobals "_law_words" = some (some (.ref f40))) (l40 : K.lookup f40 = some ⟨oc40, od40, .func (PySem.W.fnOf "_law_words" "_law_words" (defArgs s_law_words) (defBody s_law_words) (defScope s_law_words) .none kV40 dc40 pm40 an40 cd40 ct40), sl40⟩) (e40 : PySem.W.codeIn K cd40 "_law_words" = true) (k40 : PySem.W.keepIn K (.ref f40) = true)
    (a41 : PySem.W.nsIn K mainGlobals "_law_some_words" = some (some (.ref f41))) (l41 : K.lookup f41 = some ⟨oc41, od41, .func (PySem.W.fnOf "_law_some_words" "_law_some_words" (defArgs s_law_some_words) (defBody s_law_some_words) (defScope s_law_some_words) .none kV41 dc41 pm41 an41 cd41 ct41), sl41⟩) (e41 : PySem.W.codeIn K cd41 "_law_some_words" = true) (k41 : PySem.W.keepIn K (.ref f41) = true)
    (a42 : PySem.W.nsIn K mainGlobals "_law_fault" = some (some (.ref f42))) (l42 : K.lookup f42 = some ⟨oc42, od42, .func (PySem.W.fnOf "_law_fault" "_law_fault" (defArgs s_law_fault) (defBody s_law_fault) (defScope s_law_fault) .none kV42 dc42 pm42 an42 cd42 ct42), sl42⟩) (e42 : PySem.W.codeIn K cd42 "_law_fault" = true) (k42 : PySem.W.keepIn K (.ref f42) = true)
    (a43 : PySem.W.nsIn K mainGlobals "law" = some (some (.ref f43))) (l43 : K.lookup f43 = some ⟨oc43, od43, .func (PySem.W.fnOf "law" "law" (defArgs s_law) (defBody s_law) (defScope s_law) .none kV43 dc43 pm43 an43 (.ref cL) ct43), sl43⟩) (e43 : PySem.W.codeIn K (.ref cL) "law" = true) (k43 : PySem.W.keepIn K (.ref f43) = true)
    (lc : K.lookup cL = some ⟨tcc, tcd, .fields tvs, tcs⟩) (tP : tvs[11]? = some (.ref Pt)) (tn : K.lookup Pt = none) (th : PySem.W.codeHdIn K cL Pt = true)
    (a44 : PySem.W.findIn K (.ref C_BadText) "__init__" = some (some (.ref f44))) (i44 : PySem.W.typeIn K (.ref f44) = some (.type "function")) (l44 : K.lookup f44 = some ⟨oc44, od44, .func (PySem.W.fnOf "__init__" "BadText.__init__" (defArgs s_BadText_init) (defBody s_BadText_init) (defScope s_BadText_init) .none kV44 dc44 pm44 an44 cd44 ct44), sl44⟩) (e44 : PySem.W.codeIn K cd44 "BadText.__init__" = true) (k44 : PySem.W.keepIn K (.ref f44) = true)
    (a45 : PySem.W.findIn K (.ref C_Example) "__init__" = some (some (.ref f45))) (i45 : PySem.W.isFn K (.ref f45) = true) (l45 : K.lookup f45 = some ⟨oc45, od45, .func (PySem.W.fnOf "__init__" "Example.__init__" (defArgs s_Example_init) (defBody s_Example_init) (defScope s_Example_init) (.ref T45) kV45 dc45 pm45 an45 cd45 ct45), sl45⟩) (e45 : PySem.W.codeIn K cd45 "Example.__init__" = true) (k45 : PySem.W.keepIn K (.ref f45) = true)
    (t45 : K.lookup T45 = some ⟨Tc45, Td45, .seq #[.str "" tk45_0] Tn45, Ts45⟩)
    (a46 : PySem.W.findIn K (.ref C_Comment) "__init__" = some (some (.ref f46))) (i46 : PySem.W.isFn K (.ref f46) = true) (l46 : K.lookup f46 = some ⟨oc46, od46, .func (PySem.W.fnOf "__init__" "Comment.__init__" (defArgs s_Comment_init) (defBody s_Comment_init) (defScope s_Comment_init) (.ref T46) kV46 dc46 pm46 an46 cd46 ct46), sl46⟩) (e46 : PySem.W.codeIn K cd46 "Comment.__init__" = true) (k46 : PySem.W.keepIn K (.ref f46) = true)
    (t46 : K.lookup T46 = some ⟨Tc46, Td46, .seq #[.str "" tk46_0] Tn46, Ts46⟩)
    (aC_Example : PySem.W.nsIn K mainGlobals "Example" = some (some (.ref C_Example))) (pg_Example : PySem.W.plainGet K C_Example Str.empty = true) (hd_Example : PySem.W.hasDictIn K C_Example = true) (po_Example : PySem.W.plainOver K C_Example = true) (sa_Example : PySem.W.findIn K (.ref C_Example) "__setattr__" = some (some (.builtin "object.__setattr__"))) (mk_Example : PySem.W.makesIn K C_Example = true) (kc_Example : PySem.W.keepIn K (.ref C_Example) = true) (ha_Example : PySem.W.findIn K (.ref C_Example) "__class__" = some (some (.builtin "object.__class__"))) (hn_Example : PySem.W.specialIn K (.builtin "object.__class__") "__get__" = some (some (.builtin "getset_descriptor.__get__"))) (ht_Example : PySem.W.takesIn K (.builtin "object.__class__") = some true) (hm_Example : PySem.W.mroIn K C_Example (.type "object") = some true)
    (nf_Example_source : PySem.W.findIn K (.ref C_Example) "source" = some none)
    (nf_Example_want : PySem.W.findIn K (.ref C_Example) "want" = some none)
    (nf_Example_error : PySem.W.findIn K (.ref C_Example) "error" = some none)
    (nf_Example_line : PySem.W.findIn K (.ref C_Example) "line" = some none)
    (nf_Example_indent : PySem.W.findIn K (.ref C_Example) "indent" = some none)
    (nf_Example_options : PySem.W.findIn K (.ref C_Example) "options" = some none)
    (nf_Example_bare : PySem.W.findIn K (.ref C_Example) "bare" = some none)
    (aC_Comment : PySem.W.nsIn K mainGlobals "Comment" = some (some (.ref C_Comment))) (pg_Comment : PySem.W.plainGet K C_Comment Str.empty = true) (hd_Comment : PySem.W.hasDictIn K C_Comment = true) (po_Comment : PySem.W.plainOver K C_Comment = true) (sa_Comment : PySem.W.findIn K (.ref C_Comment) "__setattr__" = some (some (.builtin "object.__setattr__"))) (mk_Comment : PySem.W.makesIn K C_Comment = true) (kc_Comment : PySem.W.keepIn K (.ref C_Comment) = true) (ha_Comment : PySem.W.findIn K (.ref C_Comment) "__class__" = some (some (.builtin "object.__class__"))) (hn_Comment : PySem.W.specialIn K (.builtin "object.__class__") "__get__" = some (some (.builtin "getset_descriptor.__get__"))) (ht_Comment : PySem.W.takesIn K (.builtin "object.__class__") = some true) (hm_Comment : PySem.W.mroIn K C_Comment (.type "object") = some true)
    (nf_Comment_source : PySem.W.findIn K (.ref C_Comment) "source" = some none)
    (nf_Comment_want : PySem.W.findIn K (.ref C_Comment) "want" = some none)
    (nf_Comment_line : PySem.W.findIn K (.ref C_Comment) "line" = some none)
    (nf_Comment_indent : PySem.W.findIn K (.ref C_Comment) "indent" = some none)
    (aC_BadText : PySem.W.nsIn K mainGlobals "BadText" = some (some (.ref C_BadText))) (xL_BadText : K.lookup C_BadText = some (excClassObj en_BadText eq_BadText C_BadText N_BadText eb_BadText [.ref C_PromptError, .type "ValueError", .type "Exception", .type "BaseException", .type "object"] true em_BadText es_BadText ea_BadText ec_BadText ed_BadText k0_BadText k1_BadText k2_BadText k3_BadText k5_BadText "ValueError.__new__"))
    (sa_BadText : PySem.W.findIn K (.ref C_BadText) "__setattr__" = some (some (.builtin "object.__setattr__"))) (ga_BadText : PySem.W.findIn K (.ref C_BadText) "__getattribute__" = some (some (.builtin "BaseException.__getattribute__"))) (gg_BadText : PySem.W.findIn K (.ref C_BadText) "__getattr__" = some none) (kc_BadText : PySem.W.keepIn K (.ref C_BadText) = true) (bE_BadText : PySem.W.subIn K (.ref C_BadText) (.type "BaseException") = some true) (tE_BadText : PySem.W.typeIn K (.ref C_BadText) = some (.type "type")) (hd_BadText : PySem.W.hasDictIn K C_BadText = true) (iE_BadText : PySem.W.isClsIn K C_BadText = true) (sE_BadText : PySem.W.subIn K (.ref C_BadText) (.ref C_BadText) = some true) (ha_BadText : PySem.W.findIn K (.ref C_BadText) "__class__" = some (some (.builtin "object.__class__"))) (hn_BadText : PySem.W.specialIn K (.builtin "object.__class__") "__get__" = some (some (.builtin "getset_descriptor.__get__"))) (ht_BadText : PySem.W.takesIn K (.builtin "object.__class__") = some true) (hm_BadText : PySem.W.mroIn K C_BadText (.type "object") = some true)
    (nf_BadText_line : PySem.W.findIn K (.ref C_BadText) "line" = some none)
    (nf_BadText_reason : PySem.W.findIn K (.ref C_BadText) "reason" = some none)
    (nf_BadText_found : PySem.W.findIn K (.ref C_BadText) "found" = some none)
    (y_AHEAD : PySem.W.nsIn K mainGlobals "AHEAD" = some (some (.int 4 t_AHEAD)))
    (y_BLANKS : PySem.W.nsIn K mainGlobals "BLANKS" = some (some (.str " \t" t_BLANKS)))
    (y_FLAGS : PySem.W.nsIn K mainGlobals "FLAGS" = some (some (.ref a_FLAGS))) (x_FLAGS : K.lookup a_FLAGS = some ⟨.type "tuple", ad_FLAGS, .seq #[.str "DONT_ACCEPT_TRUE_FOR_1" t_FLAGS0, .str "DONT_ACCEPT_BLANKLINE" t_FLAGS1, .str "NORMALIZE_WHITESPACE" t_FLAGS2, .str "ELLIPSIS" t_FLAGS3, .str "SKIP" t_FLAGS4, .str "IGNORE_EXCEPTION_DETAIL" t_FLAGS5, .str "REPORT_ONLY_FIRST_FAILURE" t_FLAGS6, .str "FAIL_FAST" t_FLAGS7] an_FLAGS, as_FLAGS⟩)
    (y_FURTHER : PySem.W.nsIn K mainGlobals "FURTHER" = some (some (.str "..." t_FURTHER)))
    (y_HEADERS : PySem.W.nsIn K mainGlobals "HEADERS" = some (some (.ref a_HEADERS))) (x_HEADERS : K.lookup a_HEADERS = some ⟨.type "tuple", ad_HEADERS, .seq #[.str "Traceback (most recent call last):" t_HEADERS0, .str "Traceback (innermost last):" t_HEADERS1] an_HEADERS, as_HEADERS⟩)
    (y_MARK : PySem.W.nsIn K mainGlobals "MARK" = some (some (.str "doctest:" t_MARK)))
    (y_NOTHING : PySem.W.nsIn K mainGlobals "NOTHING" = some (some (.str "#" t_NOTHING)))
    (y_PROMPT : PySem.W.nsIn K mainGlobals "PROMPT" = some (some (.str ">>>" t_PROMPT)))
    (y_TAB : PySem.W.nsIn K mainGlobals "TAB" = some (some (.int 8 t_TAB)))
    (z_all : PySem.W.nsIn K mainGlobals "all" = some none)
    (z_bool : PySem.W.nsIn K mainGlobals "bool" = some none)
    (z_dict : PySem.W.nsIn K mainGlobals "dict" = some none)
    (z_enumerate : PySem.W.nsIn K mainGlobals "enumerate" = some none)
    (z_int : PySem.W.nsIn K mainGlobals "int" = some none)
    (z_isinstance : PySem.W.nsIn K mainGlobals "isinstance" = some none)
    (z_len : PySem.W.nsIn K mainGlobals "len" = some none)
    (z_list : PySem.W.nsIn K mainGlobals "list" = some none)
    (z_max : PySem.W.nsIn K mainGlobals "max" = some none)
    (z_min : PySem.W.nsIn K mainGlobals "min" = some none)
    (z_range : PySem.W.nsIn K mainGlobals "range" = some none)
    (z_str : PySem.W.nsIn K mainGlobals "str" = some none)
    (z_tuple : PySem.W.nsIn K mainGlobals "tuple" = some none)
    (z_zip : PySem.W.nsIn K mainGlobals "zip" = some none)
    (a_zP : PySem.W.nsIn K mainGlobals "PromptError" = some (some (.ref C_PromptError)))
    (z_EC : PySem.W.subIn K (.ref C_Example) (.ref C_Comment) = some false)
    (z_CE : PySem.W.subIn K (.ref C_Comment) (.ref C_Example) = some false)
    (z_EE : PySem.W.subIn K (.ref C_Example) (.ref C_Example) = some true)
    (z_sE : PySem.W.subIn K (.type "str") (.ref C_Example) = some false)
    (z_iE : PySem.W.isClsIn K C_Example = true)
    (z_iC : PySem.W.isClsIn K C_Comment = true)
    (z_tE : PySem.W.typeIn K (.ref C_Example) = some (.type "type"))
    (z_tC : PySem.W.typeIn K (.ref C_Comment) = some (.type "type"))
    (z_Es : PySem.W.subIn K (.ref C_Example) (.type "str") = some false)
    (z_Cs : PySem.W.subIn K (.ref C_Comment) (.type "str") = some false)
    (z_PE : PySem.W.kitOne K (.ref C_BadText) (.ref C_PromptError) = some true)
    :
    LamX.LawAtS l w K CX0 11 63 "script" mg fa h := by
  have e := hfa.symm.trans (PySem.W.mg_of X G a43)
  cases e
  have F0 : Fn K "held" s_held [] _ _ := Fn.mk' l0 e0 k0 (.inl ⟨rfl, rfl⟩)
  have F1 : Fn K "kept_lines" s_kept_lines [] _ _ := Fn.mk' l1 e1 k1 (.inl ⟨rfl, rfl⟩)
  have F2 : Fn K "lines_of" s_lines_of [] _ _ := Fn.mk' l2 e2 k2 (.inl ⟨rfl, rfl⟩)
  have F3 : Fn K "fed" s_fed [] _ _ := Fn.mk' l3 e3 k3 (.inl ⟨rfl, rfl⟩)
  have F4 : Fn K "indent_of" s_indent_of [] _ _ := Fn.mk' l4 e4 k4 (.inl ⟨rfl, rfl⟩)
  have F5 : Fn K "is_blank" s_is_blank [] _ _ := Fn.mk' l5 e5 k5 (.inl ⟨rfl, rfl⟩)
  have F6 : Fn K "words_of" s_words_of [] _ _ := Fn.mk' l6 e6 k6 (.inl ⟨rfl, rfl⟩)
  have F7 : Fn K "begins" s_begins [] _ _ := Fn.mk' l7 e7 k7 (.inl ⟨rfl, rfl⟩)
  have F8 : Fn K "cuts_of" s_cuts_of [] _ _ := Fn.mk' l8 e8 k8 (.inl ⟨rfl, rfl⟩)
  have F9 : Fn K "behind_source" s_behind_source [] _ _ := Fn.mk' l9 e9 k9 (.inl ⟨rfl, rfl⟩)
  have F10 : Fn K "behind_expected" s_behind_expected [] _ _ := Fn.mk' l10 e10 k10 (.inl ⟨rfl, rfl⟩)
  have F11 : Fn K "refuse_wrong_lines" s_refuse_wrong_lines [] _ _ := Fn.mk' l11 e11 k11 (.inl ⟨rfl, rfl⟩)
  have F12 : Fn K "refuse_wrong_indents" s_refuse_wrong_indents [] _ _ := Fn.mk' l12 e12 k12 (.inl ⟨rfl, rfl⟩)
  have F13 : Fn K "is_flag" s_is_flag [] _ _ := Fn.mk' l13 e13 k13 (.inl ⟨rfl, rfl⟩)
  have F14 : Fn K "require_flags" s_require_flags [] _ _ := Fn.mk' l14 e14 k14 (.inl ⟨rfl, rfl⟩)
  have F15 : Fn K "directive_of" s_directive_of [] _ _ := Fn.mk' l15 e15 k15 (.inl ⟨rfl, rfl⟩)
  have F16 : Fn K "directive_words" s_directive_words [] _ _ := Fn.mk' l16 e16 k16 (.inl ⟨rfl, rfl⟩)
  have F17 : Fn K "is_option_word" s_is_option_word [] _ _ := Fn.mk' l17 e17 k17 (.inl ⟨rfl, rfl⟩)
  have F18 : Fn K "options_of" s_options_of [] _ _ := Fn.mk' l18 e18 k18 (.inl ⟨rfl, rfl⟩)
  have F19 : Fn K "bare_of" s_bare_of [] _ _ := Fn.mk' l19 e19 k19 (.inl ⟨rfl, rfl⟩)
  have F20 : Fn K "bare_line" s_bare_line [] _ _ := Fn.mk' l20 e20 k20 (.inl ⟨rfl, rfl⟩)
  have F21 : Fn K "is_remark" s_is_remark [] _ _ := Fn.mk' l21 e21 k21 (.inl ⟨rfl, rfl⟩)
  have F22 : Fn K "widened" s_widened [] _ _ := Fn.mk' l22 e22 k22 (.inl ⟨rfl, rfl⟩)
  have F23 : Fn K "levelled" s_levelled [] _ _ := Fn.mk' l23 e23 k23 (.inl ⟨rfl, rfl⟩)
  have F24 : Fn K "parsed" s_parsed [] _ _ := Fn.mk' l24 e24 k24 (.inl ⟨rfl, rfl⟩)
  have F25 : Fn K "piece_at" s_piece_at [] _ _ := Fn.mk' l25 e25 k25 (.inl ⟨rfl, rfl⟩)
  have F26 : Fn K "examples_of" s_examples_of [] _ _ := Fn.mk' l26 e26 k26 (.inl ⟨rfl, rfl⟩)
  have F27 : Fn K "error_of" s_error_of [] _ _ := Fn.mk' l27 e27 k27 (.inl ⟨rfl, rfl⟩)
  have F28 : Fn K "is_word_sign" s_is_word_sign [] _ _ := Fn.mk' l28 e28 k28 (.inl ⟨rfl, rfl⟩)
  have F29 : Fn K "script_of" s_script_of [] _ _ := Fn.mk' l29 e29 k29 (.inl ⟨rfl, rfl⟩)
  have F30 : Fn K "parts_of" s_parts_of [] _ _ := Fn.mk' l30 e30 k30 (.inl ⟨rfl, rfl⟩)
  have F31 : Fn K "remark_of" s_remark_of [] _ _ := Fn.mk' l31 e31 k31 (.inl ⟨rfl, rfl⟩)
  have F32 : Fn K "_law_draws" s_law_draws [] _ _ := Fn.mk' l32 e32 k32 (.inl ⟨rfl, rfl⟩)
  have F33 : Fn K "_law_mixed" s_law_mixed [] _ _ := Fn.mk' l33 e33 k33 (.inl ⟨rfl, rfl⟩)
  have F34 : Fn K "_law_take" s_law_take [] _ _ := Fn.mk' l34 e34 k34 (.inl ⟨rfl, rfl⟩)
  have F35 : Fn K "_law_same" s_law_same [] _ _ := Fn.mk' l35 e35 k35 (.inl ⟨rfl, rfl⟩)
  have F36 : Fn K "_law_pick" s_law_pick [] _ _ := Fn.mk' l36 e36 k36 (.inl ⟨rfl, rfl⟩)
  have F37 : Fn K "_law_flags" s_law_flags [] _ _ := Fn.mk' l37 e37 k37 (.inl ⟨rfl, rfl⟩)
  have F38 : Fn K "_law_wrong" s_law_wrong [] _ _ := Fn.mk' l38 e38 k38 (.inl ⟨rfl, rfl⟩)
  have F39 : Fn K "_law_directive" s_law_directive [] _ _ := Fn.mk' l39 e39 k39 (.inl ⟨rfl, rfl⟩)
  have F40 : Fn K "_law_words" s_law_words [] _ _ := Fn.mk' l40 e40 k40 (.inl ⟨rfl, rfl⟩)
  have F41 : Fn K "_law_some_words" s_law_some_words [] _ _ := Fn.mk' l41 e41 k41 (.inl ⟨rfl, rfl⟩)
  have F42 : Fn K "_law_fault" s_law_fault [] _ _ := Fn.mk' l42 e42 k42 (.inl ⟨rfl, rfl⟩)
  have F43 : Fn K "law" s_law [] _ _ := Fn.mk' l43 e43 k43 (.inl ⟨rfl, rfl⟩)
  have F44 : FunD K "__init__" "BadText.__init__" (defArgs s_BadText_init) (defBody s_BadText_init) (defScope s_BadText_init) [] [] _ _ := ⟨⟨_, _, _, _, _, _, _, _, _, _, rfl, l44, e44, .inl ⟨rfl, rfl⟩, .inl rfl⟩, k44⟩
  have F45 : FunD K "__init__" "Example.__init__" (defArgs s_Example_init) (defBody s_Example_init) (defScope s_Example_init) [.str ""] [] _ _ := ⟨⟨_, _, _, _, _, _, _, _, _, _, rfl, l45, e45, .inr ⟨by simp, T45, _, _, _, rfl, t45, rfl, (.cons ⟨_, rfl⟩ .nil)⟩, .inl rfl⟩, k45⟩
  have F46 : FunD K "__init__" "Comment.__init__" (defArgs s_Comment_init) (defBody s_Comment_init) (defScope s_Comment_init) [.str ""] [] _ _ := ⟨⟨_, _, _, _, _, _, _, _, _, _, rfl, l46, e46, .inr ⟨by simp, T46, _, _, _, rfl, t46, rfl, (.cons ⟨_, rfl⟩ .nil)⟩, .inl rfl⟩, k46⟩
  have T_Example : Txt_Example K mg C_Example := ⟨⟨pg_Example, hd_Example, po_Example, sa_Example⟩, PySem.W.mg_of X G aC_Example, ha_Example, hn_Example, ht_Example, hm_Example, kit_self K C_Example, nf_Example_source, nf_Example_want, nf_Example_error, nf_Example_line, nf_Example_indent, nf_Example_options, nf_Example_bare⟩
  have T_Comment : Txt_Comment K mg C_Comment := ⟨⟨pg_Comment, hd_Comment, po_Comment, sa_Comment⟩, PySem.W.mg_of X G aC_Comment, ha_Comment, hn_Comment, ht_Comment, hm_Comment, kit_self K C_Comment, nf_Comment_source, nf_Comment_want, nf_Comment_line, nf_Comment_indent⟩
  have T_BadText : Err_BadText K mg C_BadText := ⟨⟨⟨en_BadText, eq_BadText, N_BadText, eb_BadText, _, em_BadText, es_BadText, ea_BadText, ec_BadText, ed_BadText, k0_BadText, k1_BadText, k2_BadText, k3_BadText, k5_BadText, xL_BadText, rfl⟩, sa_BadText, bE_BadText, tE_BadText, kc_BadText⟩, PySem.W.mg_of X G aC_BadText, ⟨ga_BadText, gg_BadText, bE_BadText, hd_BadText⟩, ⟨ga_BadText, gg_BadText, bE_BadText, hd_BadText, ha_BadText, hn_BadText, ht_BadText, hm_BadText⟩, iE_BadText, sE_BadText, nf_BadText_line, nf_BadText_reason, nf_BadText_found⟩
  have m_all : mg "all" = none := PySem.W.mg_none_of X G z_all
  have m_bool : mg "bool" = none := PySem.W.mg_none_of X G z_bool
  have m_dict : mg "dict" = none := PySem.W.mg_none_of X G z_dict
  have m_enumerate : mg "enumerate" = none := PySem.W.mg_none_of X G z_enumerate
  have m_int : mg "int" = none := PySem.W.mg_none_of X G z_int
  have m_isinstance : mg "isinstance" = none := PySem.W.mg_none_of X G z_isinstance
  have m_len : mg "len" = none := PySem.W.mg_none_of X G z_len
  have m_list : mg "list" = none := PySem.W.mg_none_of X G z_list
  have m_max : mg "max" = none := PySem.W.mg_none_of X G z_max
  have m_min : mg "min" = none := PySem.W.mg_none_of X G z_min
  have m_range : mg "range" = none := PySem.W.mg_none_of X G z_range
  have m_str : mg "str" = none := PySem.W.mg_none_of X G z_str
  have m_tuple : mg "tuple" = none := PySem.W.mg_none_of X G z_tuple
  have m_zip : mg "zip" = none := PySem.W.mg_none_of X G z_zip
  have c_AHEAD := PySem.W.mg_of X G y_AHEAD
  have c_BLANKS := PySem.W.mg_of X G y_BLANKS
  have c_FLAGS := PySem.W.mg_of X G y_FLAGS
  have q_FLAGS : ∀ H, SqT K H a_FLAGS (v_FLAGS.map V.str) := fun H => .inr ⟨_, _, _, x_FLAGS, rfl, rfl, by show 8 ≤ sizeLine; decide, (.cons ⟨_, rfl⟩ (.cons ⟨_, rfl⟩ (.cons ⟨_, rfl⟩ (.cons ⟨_, rfl⟩ (.cons ⟨_, rfl⟩ (.cons ⟨_, rfl⟩ (.cons ⟨_, rfl⟩ (.cons ⟨_, rfl⟩ .nil))))))))⟩
  have c_FURTHER := PySem.W.mg_of X G y_FURTHER
  have c_HEADERS := PySem.W.mg_of X G y_HEADERS
  have q_HEADERS : ∀ H, SqT K H a_HEADERS (v_HEADERS.map V.str) := fun H => .inr ⟨_, _, _, x_HEADERS, rfl, rfl, by show 2 ≤ sizeLine; decide, (.cons ⟨_, rfl⟩ (.cons ⟨_, rfl⟩ .nil))⟩
  have c_MARK := PySem.W.mg_of X G y_MARK
  have c_NOTHING := PySem.W.mg_of X G y_NOTHING
  have c_PROMPT := PySem.W.mg_of X G y_PROMPT
  have c_TAB := PySem.W.mg_of X G y_TAB
  have zP := PySem.W.mg_of X G a_zP
  refine ⟨PySem.W.fnOf "law" "law" (defArgs s_law) (defBody s_law) (defScope s_law) .none kV43 dc43 pm43 an43 (.ref cL) ct43, [(cL, Pt)], sp_law K Pt, fun p hp => ?_, fun p hp => ?_, fun p hp => ?_, fun s v => .of_eq rfl, fun H a ns hl _ hT hS => ⟨a, ns, rfl, hS, hl, hT _ (List.mem_singleton.mpr rfl), fun _ => rfl⟩, fun base _ _ hTB => ?_⟩
  · rw [List.mem_singleton.mp hp]
    exact own cL Pt _ _ _ _ _ _ l43 rfl rfl lc tP
  · rw [List.mem_singleton.mp hp]
    exact tn
  · rw [List.mem_singleton.mp hp]
    exact PySem.W.codeHd_of_K X th
  have TB := hTB _ (List.mem_singleton.mpr rfl)
  have O_held : Own l.prog w K mg base "held" 1 ["thing"] [] (sp_held) := by
    exact ⟨_, _, [], ok_held F0 m_dict m_isinstance m_list m_tuple, PySem.W.mg_of X G a0, F0.kp, F0.bindsN (ps := ["thing"]) (fun _ _ _ _ _ _ us hl => match us, hl with | [_], _ => rfl), .nil⟩
  have O_kept_lines : Own l.prog w K mg base "kept_lines" 1 ["text"] [] (sp_kept_lines) := by
    exact ⟨_, _, [], ok_kept_lines F1, PySem.W.mg_of X G a1, F1.kp, F1.bindsN (ps := ["text"]) (fun _ _ _ _ _ _ us hl => match us, hl with | [_], _ => rfl), .nil⟩
  have O_fed : Own l.prog w K mg base "fed" 1 ["text"] [] (sp_fed) := by
    exact ⟨_, _, [], ok_fed F3, PySem.W.mg_of X G a3, F3.kp, F3.bindsN (ps := ["text"]) (fun _ _ _ _ _ _ us hl => match us, hl with | [_], _ => rfl), .nil⟩
  have O_indent_of : Own l.prog w K mg base "indent_of" 1 ["line"] [] (sp_indent_of) := by
    exact ⟨_, _, [], ok_indent_of F4 m_len, PySem.W.mg_of X G a4, F4.kp, F4.bindsN (ps := ["line"]) (fun _ _ _ _ _ _ us hl => match us, hl with | [_], _ => rfl), .nil⟩
  have O_is_blank : Own l.prog w K mg base "is_blank" 1 ["line"] [] (sp_is_blank) := by
    exact ⟨_, _, [], ok_is_blank F5 c_BLANKS, PySem.W.mg_of X G a5, F5.kp, F5.bindsN (ps := ["line"]) (fun _ _ _ _ _ _ us hl => match us, hl with | [_], _ => rfl), .nil⟩
  have O_words_of : Own l.prog w K mg base "words_of" 1 ["text"] [] (sp_words_of) := by
    exact ⟨_, _, [], ok_words_of F6, PySem.W.mg_of X G a6, F6.kp, F6.bindsN (ps := ["text"]) (fun _ _ _ _ _ _ us hl => match us, hl with | [_], _ => rfl), .nil⟩
  have O_begins : Own l.prog w K mg base "begins" 1 ["line", "prompt"] [] (sp_begins) := by
    exact ⟨_, _, [], ok_begins F7, PySem.W.mg_of X G a7, F7.kp, F7.bindsN (ps := ["line", "prompt"]) (fun _ _ _ _ _ _ us hl => match us, hl with | [_, _], _ => rfl), .nil⟩
  have O_is_flag : Own l.prog w K mg base "is_flag" 1 ["thing"] [] (sp_is_flag) := by
    exact ⟨_, _, [], ok_is_flag F13 m_isinstance m_str c_FLAGS q_FLAGS, PySem.W.mg_of X G a13, F13.kp, F13.bindsN (ps := ["thing"]) (fun _ _ _ _ _ _ us hl => match us, hl with | [_], _ => rfl), .nil⟩
  have O_directive_of : Own l.prog w K mg base "directive_of" 1 ["line"] [] (sp_directive_of) := by
    exact ⟨_, _, [], ok_directive_of F15 m_max c_BLANKS c_MARK, PySem.W.mg_of X G a15, F15.kp, F15.bindsN (ps := ["line"]) (fun _ _ _ _ _ _ us hl => match us, hl with | [_], _ => rfl), .nil⟩
  have O_widened : Own l.prog w K mg base "widened" 1 ["text"] [] (sp_widened) := by
    exact ⟨_, _, [], ok_widened F22 c_TAB, PySem.W.mg_of X G a22, F22.kp, F22.bindsN (ps := ["text"]) (fun _ _ _ _ _ _ us hl => match us, hl with | [_], _ => rfl), .nil⟩
  have O_is_word_sign : Own l.prog w K mg base "is_word_sign" 1 ["sign"] [] (sp_is_word_sign) := by
    exact ⟨_, _, [], ok_is_word_sign F28, PySem.W.mg_of X G a28, F28.kp, F28.bindsN (ps := ["sign"]) (fun _ _ _ _ _ _ us hl => match us, hl with | [_], _ => rfl), .nil⟩
  have O_remark_of : Own l.prog w K mg base "remark_of" 1 ["line"] [] (sp_remark_of) := by
    exact ⟨_, _, [], ok_remark_of F31 c_NOTHING, PySem.W.mg_of X G a31, F31.kp, F31.bindsN (ps := ["line"]) (fun _ _ _ _ _ _ us hl => match us, hl with | [_], _ => rfl), .nil⟩
  have O_law_draws : Own l.prog w K mg base "_law_draws" 1 ["script"] [] (sp_law_draws K) := by
    exact ⟨_, _, [], ok_law_draws F32, PySem.W.mg_of X G a32, F32.kp, F32.bindsN (ps := ["script"]) (fun _ _ _ _ _ _ us hl => match us, hl with | [_], _ => rfl), .nil⟩
  have O_law_mixed : Own l.prog w K mg base "_law_mixed" 1 ["seed", "k"] [] (sp_law_mixed) := by
    exact ⟨_, _, [], ok_law_mixed F33, PySem.W.mg_of X G a33, F33.kp, F33.bindsN (ps := ["seed", "k"]) (fun _ _ _ _ _ _ us hl => match us, hl with | [_, _], _ => rfl), .nil⟩
  have O_law_flags : Own l.prog w K mg base "_law_flags" 1 [] [] (sp_law_flags) := by
    exact ⟨_, _, [], ok_law_flags F37, PySem.W.mg_of X G a37, F37.kp, F37.bindsN (ps := []) (fun _ _ _ _ _ _ us hl => match us, hl with | [], _ => rfl), .nil⟩
  have L_law_wrong : OwnL K mg "_law_wrong" s_law_wrong := ⟨_, _, F38, PySem.W.mg_of X G a38⟩
  have O_lines_of : Own l.prog w K mg base "lines_of" 2 ["text"] [] (sp_lines_of) := by
    exact ⟨_, _, [], ok_lines_of F2 O_kept_lines, PySem.W.mg_of X G a2, F2.kp, F2.bindsN (ps := ["text"]) (fun _ _ _ _ _ _ us hl => match us, hl with | [_], _ => rfl), .nil⟩
  have O_behind_source : Own l.prog w K mg base "behind_source" 2 ["lines", "at"] [] (sp_behind_source) := by
    exact ⟨_, _, [], ok_behind_source F9 O_begins m_len c_FURTHER, PySem.W.mg_of X G a9, F9.kp, F9.bindsN (ps := ["lines", "at"]) (fun _ _ _ _ _ _ us hl => match us, hl with | [_, _], _ => rfl), .nil⟩
  have O_behind_expected : Own l.prog w K mg base "behind_expected" 2 ["lines", "at"] [] (sp_behind_expected) := by
    exact ⟨_, _, [], ok_behind_expected F10 O_is_blank O_begins m_len c_PROMPT, PySem.W.mg_of X G a10, F10.kp, F10.bindsN (ps := ["lines", "at"]) (fun _ _ _ _ _ _ us hl => match us, hl with | [_, _], _ => rfl), .nil⟩
  have O_require_flags : Own l.prog w K mg base "require_flags" 2 ["flags"] [] (sp_require_flags) := by
    exact ⟨_, _, [], ok_require_flags F14 O_is_flag, PySem.W.mg_of X G a14, F14.kp, F14.bindsN (ps := ["flags"]) (fun _ _ _ _ _ _ us hl => match us, hl with | [_], _ => rfl), .nil⟩
  have O_directive_words : Own l.prog w K mg base "directive_words" 2 ["line"] [] (sp_directive_words) := by
    exact ⟨_, _, [], ok_directive_words F16 O_words_of O_directive_of, PySem.W.mg_of X G a16, F16.kp, F16.bindsN (ps := ["line"]) (fun _ _ _ _ _ _ us hl => match us, hl with | [_], _ => rfl), .nil⟩
  have O_is_option_word : Own l.prog w K mg base "is_option_word" 2 ["word"] [] (sp_is_option_word) := by
    exact ⟨_, _, [], ok_is_option_word F17 O_is_flag, PySem.W.mg_of X G a17, F17.kp, F17.bindsN (ps := ["word"]) (fun _ _ _ _ _ _ us hl => match us, hl with | [_], _ => rfl), .nil⟩
  have O_bare_line : Own l.prog w K mg base "bare_line" 2 ["line"] [] (sp_bare_line) := by
    exact ⟨_, _, [], ok_bare_line F20 O_directive_of c_BLANKS, PySem.W.mg_of X G a20, F20.kp, F20.bindsN (ps := ["line"]) (fun _ _ _ _ _ _ us hl => match us, hl with | [_], _ => rfl), .nil⟩
  have O_levelled : Own l.prog w K mg base "levelled" 2 ["text"] [] (sp_levelled) := by
    exact ⟨_, _, [], ok_levelled F23 O_widened O_is_blank O_indent_of m_min, PySem.W.mg_of X G a23, F23.kp, F23.bindsN (ps := ["text"]) (fun _ _ _ _ _ _ us hl => match us, hl with | [_], _ => rfl), .nil⟩
  have O_error_of : Own l.prog w K mg base "error_of" 2 ["want"] [] (sp_error_of) := by
    exact ⟨_, _, [], ok_error_of F27 O_kept_lines O_is_word_sign m_len m_range c_HEADERS q_HEADERS, PySem.W.mg_of X G a27, F27.kp, F27.bindsN (ps := ["want"]) (fun _ _ _ _ _ _ us hl => match us, hl with | [_], _ => rfl), .nil⟩
  have O_law_take : Own l.prog w K mg base "_law_take" 2 ["draws", "size"] [] (sp_law_take) := by
    exact ⟨_, _, [], ok_law_take F34 O_law_mixed m_len, PySem.W.mg_of X G a34, F34.kp, F34.bindsN (ps := ["draws", "size"]) (fun _ _ _ _ _ _ us hl => match us, hl with | [_, _], _ => rfl), .nil⟩
  have O_law_fault : Own l.prog w K mg base "_law_fault" 2 ["words", "is_comment", "source"] [] (sp_law_fault) := by
    exact ⟨_, _, [], ok_law_fault F42 O_law_flags, PySem.W.mg_of X G a42, F42.kp, F42.bindsN (ps := ["words", "is_comment", "source"]) (fun _ _ _ _ _ _ us hl => match us, hl with | [_, _, _], _ => rfl), .nil⟩
  have O_BadText_init : OwnE l.prog w K mg base "BadText" C_BadText 2 ["self", "line", "reason", "found"] (sp_BadText_init C_BadText) := by
    exact ⟨_, _, T_BadText.oex, a44, i44, ok_BadText_init F44 T_BadText O_held, F44.bindsN (ps := ["self", "line", "reason", "found"]) (fun _ _ _ _ _ _ us hl => match us, hl with | [_, _, _, _], _ => rfl), T_BadText.mgC⟩
  have O_Comment_init : OwnC l.prog w K mg base "Comment" C_Comment 2 ["self", "source", "want", "line", "indent"] ["line", "indent"] 2 (sp_Comment_init C_Comment) := by
    exact ⟨_, _, _, ⟨mk_Comment, a46, i46, kc_Comment⟩, ok_Comment_init F46 T_Comment O_fed, ⟨fun s us ws X l1 l2 => match us, ws, l1, l2 with | [_, _, _], [_, _], _, _ => bnd_items X t46 rfl ⟨_, rfl, rfl⟩, fun r1 r2 => vals_app r1 r2⟩, PySem.W.mg_of X G aC_Comment⟩
  have O_cuts_of : Own l.prog w K mg base "cuts_of" 3 ["lines"] [] (sp_cuts_of) := by
    exact ⟨_, _, [], ok_cuts_of F8 O_begins O_behind_source O_behind_expected m_len c_PROMPT, PySem.W.mg_of X G a8, F8.kp, F8.bindsN (ps := ["lines"]) (fun _ _ _ _ _ _ us hl => match us, hl with | [_], _ => rfl), .nil⟩
  have O_bare_of : Own l.prog w K mg base "bare_of" 3 ["source"] [] (sp_bare_of) := by
    exact ⟨_, _, [], ok_bare_of F19 O_lines_of O_bare_line, PySem.W.mg_of X G a19, F19.kp, F19.bindsN (ps := ["source"]) (fun _ _ _ _ _ _ us hl => match us, hl with | [_], _ => rfl), .nil⟩
  have O_is_remark : Own l.prog w K mg base "is_remark" 3 ["source"] [] (sp_is_remark) := by
    exact ⟨_, _, [], ok_is_remark F21 O_lines_of O_is_blank m_all c_BLANKS, PySem.W.mg_of X G a21, F21.kp, F21.bindsN (ps := ["source"]) (fun _ _ _ _ _ _ us hl => match us, hl with | [_], _ => rfl), .nil⟩
  have O_parts_of : Own l.prog w K mg base "parts_of" 3 ["piece"] [] (sp_parts_of C_Example C_Comment) := by
    exact ⟨_, _, [], ok_parts_of F30 T_Example T_Comment O_lines_of O_remark_of m_isinstance m_str c_BLANKS z_EC z_EE z_iC z_tC z_Es z_Cs, PySem.W.mg_of X G a30, F30.kp, F30.bindsN (ps := ["piece"]) (fun _ _ _ _ _ _ us hl => match us, hl with | [_], _ => rfl), .nil⟩
  have O_law_pick : Own l.prog w K mg base "_law_pick" 3 ["draws", "things"] [] (sp_law_pick) := by
    exact ⟨_, _, [], ok_law_pick F36 O_law_take m_len, PySem.W.mg_of X G a36, F36.kp, F36.bindsN (ps := ["draws", "things"]) (fun _ _ _ _ _ _ us hl => match us, hl with | [_, _], _ => rfl), .nil⟩
  have O_refuse_wrong_indents : OwnX l.prog w K mg base "refuse_wrong_indents" 4 ["lines", "start", "end", "ahead"] [] (sp_refuse_wrong_indents) := by
    exact ⟨_, _, [], ok_refuse_wrong_indents F12 T_BadText O_BadText_init m_range, PySem.W.mg_of X G a12, F12.kp, F12.bindsN (ps := ["lines", "start", "end", "ahead"]) (fun _ _ _ _ _ _ us hl => match us, hl with | [_, _, _, _], _ => rfl), .nil⟩
  have O_options_of : OwnX l.prog w K mg base "options_of" 4 ["source", "number"] [] (sp_options_of C_BadText) := by
    exact ⟨_, _, [], ok_options_of F18 T_BadText O_lines_of O_directive_words O_is_option_word O_BadText_init, PySem.W.mg_of X G a18, F18.kp, F18.bindsN (ps := ["source", "number"]) (fun _ _ _ _ _ _ us hl => match us, hl with | [_, _], _ => rfl), .nil⟩
  have O_law_directive : Own l.prog w K mg base "_law_directive" 4 ["draws", "words"] [] (sp_law_directive) := by
    exact ⟨_, _, [], ok_law_directive F39 O_law_pick m_enumerate m_int, PySem.W.mg_of X G a39, F39.kp, F39.bindsN (ps := ["draws", "words"]) (fun _ _ _ _ _ _ us hl => match us, hl with | [_, _], _ => rfl), .nil⟩
  have O_law_words : Own l.prog w K mg base "_law_words" 4 ["draws", "most"] [] (sp_law_words) := by
    exact ⟨_, _, [], ok_law_words F40 O_law_take O_law_pick O_law_flags m_range, PySem.W.mg_of X G a40, F40.kp, F40.bindsN (ps := ["draws", "most"]) (fun _ _ _ _ _ _ us hl => match us, hl with | [_, _], _ => rfl), .nil⟩
  have O_Example_init : OwnC l.prog w K mg base "Example" C_Example 4 ["self", "source", "want", "error", "line", "indent", "options"] ["error", "line", "indent", "options"] 2 (sp_Example_init C_Example) := by
    exact ⟨_, _, _, ⟨mk_Example, a45, i45, kc_Example⟩, ok_Example_init F45 T_Example O_require_flags O_fed O_bare_of m_dict, ⟨fun s us ws X l1 l2 => match us, ws, l1, l2 with | [_, _, _], [_, _, _, _], _, _ => bnd_items X t45 rfl ⟨_, rfl, rfl⟩, fun r1 r2 => vals_app r1 r2⟩, PySem.W.mg_of X G aC_Example⟩
  have O_refuse_wrong_lines : OwnX l.prog w K mg base "refuse_wrong_lines" 5 ["lines", "cut"] [] (sp_refuse_wrong_lines) := by
    exact ⟨_, _, [], ok_refuse_wrong_lines F11 T_BadText O_indent_of O_BadText_init O_refuse_wrong_indents m_len m_range c_PROMPT, PySem.W.mg_of X G a11, F11.kp, F11.bindsN (ps := ["lines", "cut"]) (fun _ _ _ _ _ _ us hl => match us, hl with | [_, _], _ => rfl), .nil⟩
  have O_law_some_words : Own l.prog w K mg base "_law_some_words" 5 ["draws"] [] (sp_law_some_words) := by
    exact ⟨_, _, [], ok_law_some_words F41 O_law_words O_law_take O_law_pick m_len, PySem.W.mg_of X G a41, F41.kp, F41.bindsN (ps := ["draws"]) (fun _ _ _ _ _ _ us hl => match us, hl with | [_], _ => rfl), .nil⟩
  have O_piece_at : OwnX l.prog w K mg base "piece_at" 6 ["lines", "cut"] [] (sp_piece_at C_Example C_Comment C_BadText) := by
    exact ⟨_, _, [], ok_piece_at F25 T_Example T_Comment T_BadText O_refuse_wrong_lines O_indent_of O_options_of O_is_remark O_Example_init O_error_of O_BadText_init O_Comment_init c_AHEAD, PySem.W.mg_of X G a25, F25.kp, F25.bindsN (ps := ["lines", "cut"]) (fun _ _ _ _ _ _ us hl => match us, hl with | [_, _], _ => rfl), .nil⟩
  have O_law_same : Own l.prog w K mg base "_law_same" 6 ["found", "due"] [] (sp_law_same 6) := by
    have key : ∀ n, Own l.prog w K mg base "_law_same" n ["found", "due"] [] (sp_law_same n) := fun n => by
      induction n with
      | zero => exact ⟨_, _, [], fnok_no fun _ _ _ _ h => sp_law_same_no h, PySem.W.mg_of X G a35, F35.kp, F35.bindsN (ps := ["found", "due"]) (fun _ _ _ _ _ _ us hl => match us, hl with | [_, _], _ => rfl), .nil⟩
      | succ n O_law_same => exact ⟨_, _, [], ok_law_same F35 O_law_same m_all m_bool m_int m_isinstance m_len m_list m_tuple m_zip, PySem.W.mg_of X G a35, F35.kp, F35.bindsN (ps := ["found", "due"]) (fun _ _ _ _ _ _ us hl => match us, hl with | [_, _], _ => rfl), .nil⟩
    exact key 6
  have O_parsed : OwnX l.prog w K mg base "parsed" 7 ["text"] [] (sp_parsed C_Example C_Comment C_BadText) := by
    exact ⟨_, _, [], ok_parsed F24 T_Example T_Comment T_BadText O_levelled O_kept_lines O_lines_of O_cuts_of O_piece_at m_len, PySem.W.mg_of X G a24, F24.kp, F24.bindsN (ps := ["text"]) (fun _ _ _ _ _ _ us hl => match us, hl with | [_], _ => rfl), .nil⟩
  have O_examples_of : OwnX l.prog w K mg base "examples_of" 8 ["text"] [] (sp_examples_of C_Example C_Comment C_BadText) := by
    exact ⟨_, _, [], ok_examples_of F26 T_Example T_Comment T_BadText O_parsed m_isinstance z_EE z_sE z_iE z_tE z_CE, PySem.W.mg_of X G a26, F26.kp, F26.bindsN (ps := ["text"]) (fun _ _ _ _ _ _ us hl => match us, hl with | [_], _ => rfl), .nil⟩
  have O_script_of : OwnX l.prog w K mg base "script_of" 8 ["text"] [] (sp_script_of C_Example C_Comment C_BadText) := by
    exact ⟨_, _, [], ok_script_of F29 T_Example T_Comment T_BadText O_parsed O_parts_of c_NOTHING, PySem.W.mg_of X G a29, F29.kp, F29.bindsN (ps := ["text"]) (fun _ _ _ _ _ _ us hl => match us, hl with | [_], _ => rfl), .nil⟩
  exact ok_law l43 e43 TB T_Example T_Comment T_BadText O_parsed O_examples_of O_script_of O_law_draws O_law_take O_law_pick O_law_some_words O_law_directive O_law_fault O_law_same m_enumerate m_int m_isinstance m_len m_range zP L_law_wrong z_PE
end Pq
open PySem PySem.W PyProof.Rows
set_option maxRecDepth 100000 in
set_option maxHeartbeats 0 in
theorem PySem.Challenge.cw_promptyard_k74_options_refused_holds : PySem.Challenge.rw_promptyard_k74_options_refused.Holds := by
  w_on; o_law; k_head; (case hw => w_witness2)
  k_fill
  refine LamX.walk_ofOwn (l := PySem.Challenge.rw_promptyard_k74_options_refused) (n := 63) (k := 11) (x := "script") (CX := fun _ => L2.CX0) rfl (by decide) rfl ⟨rfl, by decide, by decide⟩ (by decide +kernel) (fun w h Y => PySem.W.km_in_of Y) ?F (fun _ _ _ _ _ h => h)
  case F =>
    intro w mg fa h Y KX G hmg own
    refine' Pq.all_mk KX G hmg own ?a0 ?l0 ?e0 ?k0 ?a1 ?l1 ?e1 ?k1 ?a2 ?l2 ?e2 ?k2 ?a3 ?l3 ?e3 ?k3 ?a4 ?l4 ?e4 ?k4 ?a5 ?l5 ?e5 ?k5 ?a6 ?l6 ?e6 ?k6 ?a7 ?l7 ?e7 ?k7 ?a8 ?l8 ?e8 ?k8 ?a9 ?l9 ?e9 ?k9 ?a10 ?l10 ?e10 ?k10 ?a11 ?l11 ?e11 ?k11 ?a12 ?l12 ?e12 ?k12 ?a13 ?l13 ?e13 ?k13 ?a14 ?l14 ?e14 ?k14 ?a15 ?l15 ?e15 ?k15 ?a16 ?l16 ?e16 ?k16 ?a17 ?l17 ?e17 ?k17 ?a18 ?l18 ?e18 ?k18 ?a19 ?l19 ?e19 ?k19 ?a20 ?l20 ?e20 ?k20 ?a21 ?l21 ?e21 ?k21 ?a22 ?l22 ?e22 ?k22 ?a23 ?l23 ?e23 ?k23 ?a24 ?l24 ?e24 ?k24 ?a25 ?l25 ?e25 ?k25 ?a26 ?l26 ?e26 ?k26 ?a27 ?l27 ?e27 ?k27 ?a28 ?l28 ?e28 ?k28 ?a29 ?l29 ?e29 ?k29 ?a30 ?l30 ?e30 ?k30 ?a31 ?l31 ?e31 ?k31 ?a32 ?l32 ?e32 ?k32 ?a33 ?l33 ?e33 ?k33 ?a34 ?l34 ?e34 ?k34 ?a35 ?l35 ?e35 ?k35 ?a36 ?l36 ?e36 ?k36 ?a37 ?l37 ?e37 ?k37 ?a38 ?l38 ?e38 ?k38 ?a39 ?l39 ?e39 ?k39 ?a40 ?l40 ?e40 ?k40 ?a41 ?l41 ?e41 ?k41 ?a42 ?l42 ?e42 ?k42 ?a43 ?l43 ?e43 ?k43 ?lc ?tP ?tn ?th ?a44 ?i44 ?l44 ?e44 ?k44 ?a45 ?i45 ?l45 ?e45 ?k45 ?t45 ?a46 ?i46 ?l46 ?e46 ?k46 ?t46 ?aC_Example ?pg_Example ?hd_Example ?po_Example ?sa_Example ?mk_Example ?kc_Example ?ha_Example ?hn_Example ?ht_Example ?hm_Example ?nf_Example_source ?nf_Example_want ?nf_Example_error ?nf_Example_line ?nf_Example_indent ?nf_Example_options ?nf_Example_bare ?aC_Comment ?pg_Comment ?hd_Comment ?po_Comment ?sa_Comment ?mk_Comment ?kc_Comment ?ha_Comment ?hn_Comment ?ht_Comment ?hm_Comment ?nf_Comment_source ?nf_Comment_want ?nf_Comment_line ?nf_Comment_indent ?aC_BadText ?xL_BadText ?sa_BadText ?ga_BadText ?gg_BadText ?kc_BadText ?bE_BadText ?tE_BadText ?hd_BadText ?iE_BadText ?sE_BadText ?ha_BadText ?hn_BadText ?ht_BadText ?hm_BadText ?nf_BadText_line ?nf_BadText_reason ?nf_BadText_found ?y_AHEAD ?y_BLANKS ?y_FLAGS ?x_FLAGS ?y_FURTHER ?y_HEADERS ?x_HEADERS ?y_MARK ?y_NOTHING ?y_PROMPT ?y_TAB ?z_all ?z_bool ?z_dict ?z_enumerate ?z_int ?z_isinstance ?z_len ?z_list ?z_max ?z_min ?z_range ?z_str ?z_tuple ?z_zip ?a_zP ?z_EC ?z_CE ?z_EE ?z_sE ?z_iE ?z_iC ?z_tE ?z_tC ?z_Es ?z_Cs ?z_PE
    (case aC_Example => k_is)
    (case aC_Comment => k_is)
    (case aC_BadText => k_is)
    (case a0 => k_is)
    (case l0 => k_is)
    (case e0 => k_is)
    (case k0 => k_is)
    (case a1 => k_is)
    (case l1 => k_is)
    (case e1 => k_is)
    (case k1 => k_is)
    (case a2 => k_is)
    (case l2 => k_is)
    (case e2 => k_is)
    (case k2 => k_is)
    (case a3 => k_is)
    (case l3 => k_is)
    (case e3 => k_is)
    (case k3 => k_is)
    (case a4 => k_is)
    (case l4 => k_is)
    (case e4 => k_is)
    (case k4 => k_is)
    (case a5 => k_is)
    (case l5 => k_is)
    (case e5 => k_is)
    (case k5 => k_is)
    (case a6 => k_is)
    (case l6 => k_is)
    (case e6 => k_is)
    (case k6 => k_is)
    (case a7 => k_is)
    (case l7 => k_is)
    (case e7 => k_is)
    (case k7 => k_is)
    (case a8 => k_is)
    (case l8 => k_is)
    (case e8 => k_is)
    (case k8 => k_is)
    (case a9 => k_is)
    (case l9 => k_is)
    (case e9 => k_is)
    (case k9 => k_is)
    (case a10 => k_is)
    (case l10 => k_is)
    (case e10 => k_is)
    (case k10 => k_is)
    (case a11 => k_is)
    (case l11 => k_is)
    (case e11 => k_is)
    (case k11 => k_is)
    (case a12 => k_is)
    (case l12 => k_is)
    (case e12 => k_is)
    (case k12 => k_is)
    (case a13 => k_is)
    (case l13 => k_is)
    (case e13 => k_is)
    (case k13 => k_is)
    (case a14 => k_is)
    (case l14 => k_is)
    (case e14 => k_is)
    (case k14 => k_is)
    (case a15 => k_is)
    (case l15 => k_is)
    (case e15 => k_is)
    (case k15 => k_is)
    (case a16 => k_is)
    (case l16 => k_is)
    (case e16 => k_is)
    (case k16 => k_is)
    (case a17 => k_is)
    (case l17 => k_is)
    (case e17 => k_is)
    (case k17 => k_is)
    (case a18 => k_is)
    (case l18 => k_is)
    (case e18 => k_is)
    (case k18 => k_is)
    (case a19 => k_is)
    (case l19 => k_is)
    (case e19 => k_is)
    (case k19 => k_is)
    (case a20 => k_is)
    (case l20 => k_is)
    (case e20 => k_is)
    (case k20 => k_is)
    (case a21 => k_is)
    (case l21 => k_is)
    (case e21 => k_is)
    (case k21 => k_is)
    (case a22 => k_is)
    (case l22 => k_is)
    (case e22 => k_is)
    (case k22 => k_is)
    (case a23 => k_is)
    (case l23 => k_is)
    (case e23 => k_is)
    (case k23 => k_is)
    (case a24 => k_is)
    (case l24 => k_is)
    (case e24 => k_is)
    (case k24 => k_is)
    (case a25 => k_is)
    (case l25 => k_is)
    (case e25 => k_is)
    (case k25 => k_is)
    (case a26 => k_is)
    (case l26 => k_is)
    (case e26 => k_is)
    (case k26 => k_is)
    (case a27 => k_is)
    (case l27 => k_is)
    (case e27 => k_is)
    (case k27 => k_is)
    (case a28 => k_is)
    (case l28 => k_is)
    (case e28 => k_is)
    (case k28 => k_is)
    (case a29 => k_is)
    (case l29 => k_is)
    (case e29 => k_is)
    (case k29 => k_is)
    (case a30 => k_is)
    (case l30 => k_is)
    (case e30 => k_is)
    (case k30 => k_is)
    (case a31 => k_is)
    (case l31 => k_is)
    (case e31 => k_is)
    (case k31 => k_is)
    (case a32 => k_is)
    (case l32 => k_is)
    (case e32 => k_is)
    (case k32 => k_is)
    (case a33 => k_is)
    (case l33 => k_is)
    (case e33 => k_is)
    (case k33 => k_is)
    (case a34 => k_is)
    (case l34 => k_is)
    (case e34 => k_is)
    (case k34 => k_is)
    (case a35 => k_is)
    (case l35 => k_is)
    (case e35 => k_is)
    (case k35 => k_is)
    (case a36 => k_is)
    (case l36 => k_is)
    (case e36 => k_is)
    (case k36 => k_is)
    (case a37 => k_is)
    (case l37 => k_is)
    (case e37 => k_is)
    (case k37 => k_is)
    (case a38 => k_is)
    (case l38 => k_is)
    (case e38 => k_is)
    (case k38 => k_is)
    (case a39 => k_is)
    (case l39 => k_is)
    (case e39 => k_is)
    (case k39 => k_is)
    (case a40 => k_is)
    (case l40 => k_is)
    (case e40 => k_is)
    (case k40 => k_is)
    (case a41 => k_is)
    (case l41 => k_is)
    (case e41 => k_is)
    (case k41 => k_is)
    (case a42 => k_is)
    (case l42 => k_is)
    (case e42 => k_is)
    (case k42 => k_is)
    (case a43 => k_is)
    (case l43 => k_is)
    (case e43 => k_is)
    (case k43 => k_is)
    (case lc => first | rfl | k_is)
    (case tP => first | rfl | k_is)
    (case tn => first | rfl | k_is)
    (case th => first | rfl | k_is)
    (case a44 => k_is)
    (case i44 => k_is)
    (case l44 => k_is)
    (case e44 => k_is)
    (case k44 => k_is)
    (case a45 => k_is)
    (case i45 => k_is)
    (case l45 => k_is)
    (case e45 => k_is)
    (case k45 => k_is)
    (case t45 => k_is)
    (case a46 => k_is)
    (case i46 => k_is)
    (case l46 => k_is)
    (case e46 => k_is)
    (case k46 => k_is)
    (case t46 => k_is)
    (case pg_Example => k_is)
    (case hd_Example => k_is)
    (case po_Example => k_is)
    (case sa_Example => k_is)
    (case mk_Example => k_is)
    (case kc_Example => k_is)
    (case ha_Example => k_is)
    (case hn_Example => k_is)
    (case ht_Example => k_is)
    (case hm_Example => k_is)
    (case nf_Example_source => k_is)
    (case nf_Example_want => k_is)
    (case nf_Example_error => k_is)
    (case nf_Example_line => k_is)
    (case nf_Example_indent => k_is)
    (case nf_Example_options => k_is)
    (case nf_Example_bare => k_is)
    (case pg_Comment => k_is)
    (case hd_Comment => k_is)
    (case po_Comment => k_is)
    (case sa_Comment => k_is)
    (case mk_Comment => k_is)
    (case kc_Comment => k_is)
    (case ha_Comment => k_is)
    (case hn_Comment => k_is)
    (case ht_Comment => k_is)
    (case hm_Comment => k_is)
    (case nf_Comment_source => k_is)
    (case nf_Comment_want => k_is)
    (case nf_Comment_line => k_is)
    (case nf_Comment_indent => k_is)
    (case xL_BadText => k_is)
    (case sa_BadText => k_is)
    (case ga_BadText => k_is)
    (case gg_BadText => k_is)
    (case kc_BadText => k_is)
    (case bE_BadText => k_is)
    (case tE_BadText => k_is)
    (case hd_BadText => k_is)
    (case iE_BadText => k_is)
    (case sE_BadText => k_is)
    (case ha_BadText => k_is)
    (case hn_BadText => k_is)
    (case ht_BadText => k_is)
    (case hm_BadText => k_is)
    (case nf_BadText_line => k_is)
    (case nf_BadText_reason => k_is)
    (case nf_BadText_found => k_is)
    (case y_AHEAD => k_is)
    (case y_BLANKS => k_is)
    (case y_FLAGS => k_is)
    (case x_FLAGS => k_is)
    (case y_FURTHER => k_is)
    (case y_HEADERS => k_is)
    (case x_HEADERS => k_is)
    (case y_MARK => k_is)
    (case y_NOTHING => k_is)
    (case y_PROMPT => k_is)
    (case y_TAB => k_is)
    (case z_all => k_is)
    (case z_bool => k_is)
    (case z_dict => k_is)
    (case z_enumerate => k_is)
    (case z_int => k_is)
    (case z_isinstance => k_is)
    (case z_len => k_is)
    (case z_list => k_is)
    (case z_max => k_is)
    (case z_min => k_is)
    (case z_range => k_is)
    (case z_str => k_is)
    (case z_tuple => k_is)
    (case z_zip => k_is)
    (case a_zP => k_is)
    (case z_EC => first | rfl | k_is)
    (case z_CE => first | rfl | k_is)
    (case z_EE => first | rfl | k_is)
    (case z_sE => first | rfl | k_is)
    (case z_iE => first | rfl | k_is)
    (case z_iC => first | rfl | k_is)
    (case z_tE => first | rfl | k_is)
    (case z_tC => first | rfl | k_is)
    (case z_Es => first | rfl | k_is)
    (case z_Cs => first | rfl | k_is)
    (case z_PE => first | rfl | k_is)

