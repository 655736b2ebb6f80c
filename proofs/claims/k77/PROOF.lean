import PyProof.Rows.All
import Wide.All
import OpenK.AllK
import Wide.FinOn
import HandS.FStr
import HandS.ForMost
import HandS.Flow
import HandS.Defaults
import HandS.Style
import HandS.IsInst
import HandS.StrMore
import HandS.ReplaceList
import HandS.Deep
import HandS.Conv
import HandS.More
import PyProof.ToksMono
import HandS.ExpandTabs
import HandS.Codes
import HandS.SortKw
import KE.KMinKey
import KE.KUnpackStar
import HandS.List
import HandS.MakeKwOnly
import HandS.TryOnly
import HandS.ListItems
import HandS.Zip
import KE.SortData
import KE.KIsAll
import KE.KExcIs
import HandS.ExcInit
import HandS.ExcField
import HandS.ExcIs
import HandS.Lambda
import HandS.CallLocal
import HandS.EndOwn
import KE.KNestM
import PySem.Challenge.RW_promptyard_k77_whole_texts_read
set_option Elab.async false
set_option linter.all false
set_option maxRecDepth 100000
namespace Pq
open PySem L2 TL PyProof.Rows
def top (i : Nat) : Stmt := PySem.Challenge.pw_promptyard_k77_whole_texts_read.main.body.getD i (.Pass ⟨0, 0, 0, 0⟩)
-- def held at top 1
abbrev s_held : Stmt := top 1
theorem sc_held : FnScope ["thing", "key", "part"] ["thing"] (defScope s_held) := ⟨rfl, rfl, rfl, by decide +kernel, rfl, by decide +kernel, by decide +kernel⟩
-- cells ['thing']
-- def kept_lines at top 6
abbrev s_kept_lines : Stmt := top 6
theorem sc_kept_lines : FnScope ["text", "lines", "rest", "kept", "line"] ["text"] (defScope s_kept_lines) := ⟨rfl, rfl, rfl, by decide +kernel, rfl, by decide +kernel, by decide +kernel⟩
-- cells []
-- def lines_of at top 7
abbrev s_lines_of : Stmt := top 7
theorem sc_lines_of : FnScope ["text", "line"] ["text"] (defScope s_lines_of) := ⟨rfl, rfl, rfl, by decide +kernel, rfl, by decide +kernel, by decide +kernel⟩
-- cells []
-- def fed at top 8
abbrev s_fed : Stmt := top 8
theorem sc_fed : FnScope ["text"] ["text"] (defScope s_fed) := ⟨rfl, rfl, rfl, by decide +kernel, rfl, by decide +kernel, by decide +kernel⟩
-- cells []
-- def indent_of at top 9
abbrev s_indent_of : Stmt := top 9
theorem sc_indent_of : FnScope ["line"] ["line"] (defScope s_indent_of) := ⟨rfl, rfl, rfl, by decide +kernel, rfl, by decide +kernel, by decide +kernel⟩
-- cells []
-- def is_blank at top 12
abbrev s_is_blank : Stmt := top 12
theorem sc_is_blank : FnScope ["line"] ["line"] (defScope s_is_blank) := ⟨rfl, rfl, rfl, by decide +kernel, rfl, by decide +kernel, by decide +kernel⟩
-- cells []
-- def words_of at top 13
abbrev s_words_of : Stmt := top 13
theorem sc_words_of : FnScope ["text", "spaced", "word"] ["text"] (defScope s_words_of) := ⟨rfl, rfl, rfl, by decide +kernel, rfl, by decide +kernel, by decide +kernel⟩
-- cells []
-- def begins at top 18
abbrev s_begins : Stmt := top 18
theorem sc_begins : FnScope ["line", "prompt"] ["line", "prompt"] (defScope s_begins) := ⟨rfl, rfl, rfl, by decide +kernel, rfl, by decide +kernel, by decide +kernel⟩
-- cells []
-- def cuts_of at top 19
abbrev s_cuts_of : Stmt := top 19
theorem sc_cuts_of : FnScope ["lines", "cuts", "at", "middle", "end"] ["lines"] (defScope s_cuts_of) := ⟨rfl, rfl, rfl, by decide +kernel, rfl, by decide +kernel, by decide +kernel⟩
-- cells []
-- def behind_source at top 20
abbrev s_behind_source : Stmt := top 20
theorem sc_behind_source : FnScope ["lines", "at"] ["lines", "at"] (defScope s_behind_source) := ⟨rfl, rfl, rfl, by decide +kernel, rfl, by decide +kernel, by decide +kernel⟩
-- cells []
-- def behind_expected at top 21
abbrev s_behind_expected : Stmt := top 21
theorem sc_behind_expected : FnScope ["lines", "at"] ["lines", "at"] (defScope s_behind_expected) := ⟨rfl, rfl, rfl, by decide +kernel, rfl, by decide +kernel, by decide +kernel⟩
-- cells []
-- def refuse_wrong_lines at top 22
abbrev s_refuse_wrong_lines : Stmt := top 22
theorem sc_refuse_wrong_lines : FnScope ["lines", "cut", "start", "middle", "end", "indent", "behind_prompt", "at"] ["lines", "cut"] (defScope s_refuse_wrong_lines) := ⟨rfl, rfl, rfl, by decide +kernel, rfl, by decide +kernel, by decide +kernel⟩
-- cells []
-- def refuse_wrong_indents at top 23
abbrev s_refuse_wrong_indents : Stmt := top 23
theorem sc_refuse_wrong_indents : FnScope ["lines", "start", "end", "ahead", "at"] ["lines", "start", "end", "ahead"] (defScope s_refuse_wrong_indents) := ⟨rfl, rfl, rfl, by decide +kernel, rfl, by decide +kernel, by decide +kernel⟩
-- cells []
-- def is_flag at top 26
abbrev s_is_flag : Stmt := top 26
theorem sc_is_flag : FnScope ["thing"] ["thing"] (defScope s_is_flag) := ⟨rfl, rfl, rfl, by decide +kernel, rfl, by decide +kernel, by decide +kernel⟩
-- cells []
-- def require_flags at top 27
abbrev s_require_flags : Stmt := top 27
theorem sc_require_flags : FnScope ["flags", "thing"] ["flags"] (defScope s_require_flags) := ⟨rfl, rfl, rfl, by decide +kernel, rfl, by decide +kernel, by decide +kernel⟩
-- cells []
-- def directive_of at top 30
abbrev s_directive_of : Stmt := top 30
theorem sc_directive_of : FnScope ["line", "at"] ["line"] (defScope s_directive_of) := ⟨rfl, rfl, rfl, by decide +kernel, rfl, by decide +kernel, by decide +kernel⟩
-- cells []
-- def directive_words at top 31
abbrev s_directive_words : Stmt := top 31
theorem sc_directive_words : FnScope ["line"] ["line"] (defScope s_directive_words) := ⟨rfl, rfl, rfl, by decide +kernel, rfl, by decide +kernel, by decide +kernel⟩
-- cells []
-- def is_option_word at top 32
abbrev s_is_option_word : Stmt := top 32
theorem sc_is_option_word : FnScope ["word"] ["word"] (defScope s_is_option_word) := ⟨rfl, rfl, rfl, by decide +kernel, rfl, by decide +kernel, by decide +kernel⟩
-- cells []
-- def options_of at top 33
abbrev s_options_of : Stmt := top 33
theorem sc_options_of : FnScope ["source", "number", "options", "line", "word"] ["source", "number"] (defScope s_options_of) := ⟨rfl, rfl, rfl, by decide +kernel, rfl, by decide +kernel, by decide +kernel⟩
-- cells []
-- def bare_of at top 34
abbrev s_bare_of : Stmt := top 34
theorem sc_bare_of : FnScope ["source", "line"] ["source"] (defScope s_bare_of) := ⟨rfl, rfl, rfl, by decide +kernel, rfl, by decide +kernel, by decide +kernel⟩
-- cells []
-- def bare_line at top 35
abbrev s_bare_line : Stmt := top 35
theorem sc_bare_line : FnScope ["line"] ["line"] (defScope s_bare_line) := ⟨rfl, rfl, rfl, by decide +kernel, rfl, by decide +kernel, by decide +kernel⟩
-- cells []
-- def is_remark at top 36
abbrev s_is_remark : Stmt := top 36
theorem sc_is_remark : FnScope ["source", "line"] ["source"] (defScope s_is_remark) := ⟨rfl, rfl, rfl, by decide +kernel, rfl, by decide +kernel, by decide +kernel⟩
-- cells []
-- def widened at top 42
abbrev s_widened : Stmt := top 42
theorem sc_widened : FnScope ["text"] ["text"] (defScope s_widened) := ⟨rfl, rfl, rfl, by decide +kernel, rfl, by decide +kernel, by decide +kernel⟩
-- cells []
-- def levelled at top 43
abbrev s_levelled : Stmt := top 43
theorem sc_levelled : FnScope ["text", "lines", "least", "line"] ["text"] (defScope s_levelled) := ⟨rfl, rfl, rfl, by decide +kernel, rfl, by decide +kernel, by decide +kernel⟩
-- cells ['least']
-- def parsed at top 44
abbrev s_parsed : Stmt := top 44
theorem sc_parsed : FnScope ["text", "level", "kept", "lines", "pieces", "behind", "cut"] ["text"] (defScope s_parsed) := ⟨rfl, rfl, rfl, by decide +kernel, rfl, by decide +kernel, by decide +kernel⟩
-- cells []
-- def piece_at at top 45
abbrev s_piece_at : Stmt := top 45
theorem sc_piece_at : FnScope ["lines", "cut", "start", "middle", "end", "indent", "source", "want", "options", "line"] ["lines", "cut"] (defScope s_piece_at) := ⟨rfl, rfl, rfl, by decide +kernel, rfl, by decide +kernel, by decide +kernel⟩
-- cells ['indent']
-- def error_of at top 46
abbrev s_error_of : Stmt := top 46
theorem sc_error_of : FnScope ["want", "lines", "at"] ["want"] (defScope s_error_of) := ⟨rfl, rfl, rfl, by decide +kernel, rfl, by decide +kernel, by decide +kernel⟩
-- cells []
-- def is_word_sign at top 47
abbrev s_is_word_sign : Stmt := top 47
theorem sc_is_word_sign : FnScope ["sign"] ["sign"] (defScope s_is_word_sign) := ⟨rfl, rfl, rfl, by decide +kernel, rfl, by decide +kernel, by decide +kernel⟩
-- cells []
-- def _law_draws at top 49
abbrev s_law_draws : Stmt := top 49
theorem sc_law_draws : FnScope ["script", "item"] ["script"] (defScope s_law_draws) := ⟨rfl, rfl, rfl, by decide +kernel, rfl, by decide +kernel, by decide +kernel⟩
-- cells []
-- def _law_mixed at top 50
abbrev s_law_mixed : Stmt := top 50
theorem sc_law_mixed : FnScope ["seed", "k", "first"] ["seed", "k"] (defScope s_law_mixed) := ⟨rfl, rfl, rfl, by decide +kernel, rfl, by decide +kernel, by decide +kernel⟩
-- cells []
-- def _law_take at top 51
abbrev s_law_take : Stmt := top 51
theorem sc_law_take : FnScope ["draws", "size", "drawn", "seed", "reach"] ["draws", "size"] (defScope s_law_take) := ⟨rfl, rfl, rfl, by decide +kernel, rfl, by decide +kernel, by decide +kernel⟩
-- cells []
-- def _law_same at top 52
abbrev s_law_same : Stmt := top 52
theorem sc_law_same : FnScope ["found", "due", "one", "two"] ["found", "due"] (defScope s_law_same) := ⟨rfl, rfl, rfl, by decide +kernel, rfl, by decide +kernel, by decide +kernel⟩
-- cells []
-- def _law_pick at top 53
abbrev s_law_pick : Stmt := top 53
theorem sc_law_pick : FnScope ["draws", "things"] ["draws", "things"] (defScope s_law_pick) := ⟨rfl, rfl, rfl, by decide +kernel, rfl, by decide +kernel, by decide +kernel⟩
-- cells []
-- def _law_error at top 54
abbrev s_law_error : Stmt := top 54
theorem sc_law_error : FnScope ["lines", "heads", "at", "each"] ["lines"] (defScope s_law_error) := ⟨rfl, rfl, rfl, by decide +kernel, rfl, by decide +kernel, by decide +kernel⟩
-- cells []
-- def _law_shown at top 55
abbrev s_law_shown : Stmt := top 55
theorem sc_law_shown : FnScope ["piece", "rest"] ["piece"] (defScope s_law_shown) := ⟨rfl, rfl, rfl, by decide +kernel, rfl, by decide +kernel, by decide +kernel⟩
-- cells []
-- def _law_flags at top 56
abbrev s_law_flags : Stmt := top 56
theorem sc_law_flags : FnScope ["found"] [] (defScope s_law_flags) := ⟨rfl, rfl, rfl, by decide +kernel, rfl, by decide +kernel, by decide +kernel⟩
-- cells []
-- def _law_wrong at top 57
abbrev s_law_wrong : Stmt := top 57
theorem sc_law_wrong : FnScope ["ask", "found"] ["ask"] (defScope s_law_wrong) := ⟨rfl, rfl, rfl, by decide +kernel, rfl, by decide +kernel, by decide +kernel⟩
-- cells []
-- def _law_option_words at top 58
abbrev s_law_option_words : Stmt := top 58
theorem sc_law_option_words : FnScope ["line", "at", "rest"] ["line"] (defScope s_law_option_words) := ⟨rfl, rfl, rfl, by decide +kernel, rfl, by decide +kernel, by decide +kernel⟩
-- cells []
-- def _law_fault at top 59
abbrev s_law_fault : Stmt := top 59
theorem sc_law_fault : FnScope ["lines", "many", "indent", "at", "ahead"] ["lines", "many", "indent"] (defScope s_law_fault) := ⟨rfl, rfl, rfl, by decide +kernel, rfl, by decide +kernel, by decide +kernel⟩
-- cells []
-- def _law_one_read at top 60
abbrev s_law_one_read : Stmt := top 60
theorem sc_law_one_read : FnScope ["lines", "many", "number", "indent", "fault", "rows", "known", "bare", "row", "words", "rest", "word", "source", "wants", "found", "line", "want", "one"] ["lines", "many", "number"] (defScope s_law_one_read) := ⟨rfl, rfl, rfl, by decide +kernel, rfl, by decide +kernel, by decide +kernel⟩
-- cells ['indent', 'word']
-- def _law_read at top 61
abbrev s_law_read : Stmt := top 61
theorem sc_law_read : FnScope ["text", "lines", "found", "at", "begin", "is_last", "many", "one"] ["text"] (defScope s_law_read) := ⟨rfl, rfl, rfl, by decide +kernel, rfl, by decide +kernel, by decide +kernel⟩
-- cells []
-- def law at top 62
abbrev s_law : Stmt := top 62
theorem sc_law : FnScope ["script", "draws", "some", "odd", "turn", "lines", "k", "line", "base", "text", "wide", "indents", "least", "due", "found", "piece"] ["script"] (defScope s_law) := ⟨rfl, rfl, rfl, by decide +kernel, rfl, by decide +kernel, by decide +kernel⟩
-- cells ['least', 'text']
-- def BadText_init at top 4
abbrev s_BadText_init : Stmt := inClass (top 4) 0
theorem sc_BadText_init : FnScope ["self", "line", "reason", "found"] ["self", "line", "reason", "found"] (defScope s_BadText_init) := ⟨rfl, rfl, rfl, by decide +kernel, rfl, by decide +kernel, by decide +kernel⟩
-- cells []
-- def Example_init at top 40
abbrev s_Example_init : Stmt := inClass (top 40) 0
theorem sc_Example_init : FnScope ["self", "source", "want", "error", "line", "indent", "options", "told"] ["self", "source", "want", "error", "line", "indent", "options"] (defScope s_Example_init) := ⟨rfl, rfl, rfl, by decide +kernel, rfl, by decide +kernel, by decide +kernel⟩
-- cells []
-- def Comment_init at top 41
abbrev s_Comment_init : Stmt := inClass (top 41) 0
theorem sc_Comment_init : FnScope ["self", "source", "want", "line", "indent"] ["self", "source", "want", "line", "indent"] (defScope s_Comment_init) := ⟨rfl, rfl, rfl, by decide +kernel, rfl, by decide +kernel, by decide +kernel⟩
-- cells []
def v_FLAGS : List Str := ["DONT_ACCEPT_TRUE_FOR_1", "DONT_ACCEPT_BLANKLINE", "NORMALIZE_WHITESPACE", "ELLIPSIS", "SKIP", "IGNORE_EXCEPTION_DETAIL", "REPORT_ONLY_FIRST_FAILURE", "FAIL_FAST"]
def v_HEADERS : List Str := ["Traceback (most recent call last):", "Traceback (innermost last):"]

/-! ### small words -/
theorem same_new {H : Hp} {p : Addr} {o : HO} (h : H p = none) : Same H (upd H p o) := fun b x e => by
  rw [upd_ne (ne_of_none e h)]
  exact e
theorem line_of {n : Nat} (h : n ≤ 1000000) : n ≤ sizeLine := Nat.le_trans h (by decide)
/-- a def of the text, as its callers see it -/
structure Own (P : Program) (w : World) (K : PySem.W.Frag) (mg : Str → Option Value) (base : Heap) (x : Str) (k : Nat) (ps : List Str) (dvs : List V) (sp : Sp) : Prop where
  ex : ∃ f fd ds, FnOk P w K mg base CX0 k f fd ps sp ∧ mg x = some (.ref f) ∧ PySem.W.keepIn K (.ref f) = true ∧ Binds K fd ps ds ∧ Vals dvs ds
section
variable {X : Cx} {x : Str} {k : Nat} {ps : List Str} {dvs : List V} {sp : Sp} {e : Expr} {es : List Expr} {t : TA} {p pos : Pos}
theorem Own.mk' {P : Program} {w : World} {K : PySem.W.Frag} {mg : Str → Option Value} {base : Heap} {f : Addr} {fd : FuncData} {ds : List Value} (a : FnOk P w K mg base CX0 k f fd ps sp) (b : mg x = some (.ref f)) (c : PySem.W.keepIn K (.ref f) = true) (d : Binds K fd ps ds) (v : Vals dvs ds) : Own P w K mg base x k ps dvs sp := ⟨_, _, _, a, b, c, d, v⟩
theorem pe_own (O : Own X.prog X.w X.K X.mg X.base x k ps dvs sp) (hr : Room k X.A) (hg : Gl X x) (ha : PA X (e :: es) t) (hdb : (x == ("__debug__" : Str)) = false := by decide) (he : starEach (e :: es) X.env = (false, eval e X.env) :: starEach es X.env := by rfl) (hpl : (backTo pos (starEach es X.env)).any (·.1) = false := by rfl) :
    PE X (.Call (.Name x p) (e :: es) [] pos) (tCall sp dvs E0 t) := by
  obtain ⟨f, fd, ds, F, hm, hk, hb, hd⟩ := O.ex
  exact pe_call F hr hg hm hk hb hd pass0 ha hdb he hpl
theorem pe_own0 (O : Own X.prog X.w X.K X.mg X.base x k ps dvs sp) (hr : Room k X.A) (hg : Gl X x) (hdb : (x == ("__debug__" : Str)) = false := by decide) :
    PE X (.Call (.Name x p) [] [] pos) (tCall sp dvs E0 tNil) := by
  obtain ⟨f, fd, ds, F, hm, hk, hb, hd⟩ := O.ex
  exact pe_call0 F hr hg hm hk hb hd pass0 hdb
/-- a statement, a word about what stands behind it, the rest -/
def tCut (t u : TS) : TS := fun D σ H => ∃ Mid : L2.St → Hp → Prop, t { D with nx := Mid } σ H ∧ ∀ σ' H', Mid σ' H' → u D σ' H'
theorem pss_cut {st : Stmt} {rest : List Stmt} {t u : TS} (h1 : PS X st t) (h2 : PSs X rest u) : PSs X (st :: rest) (tCut t u) := by
  refine ⟨fun pins s σ H D I h => ?_⟩
  obtain ⟨Mid, hm, hu⟩ := h
  refine wpAny_execs_cons (thn (h1.run pins s σ H { D with nx := Mid } I hm) fun f s1 q => ?_)
  cases f with
  | next =>
    obtain ⟨σ', H', I', q⟩ := q
    exact h2.run pins s1 σ' H' D I' (hu σ' H' q)
  | ret v => exact q
  | brk => exact q
  | cont => exact q
end
theorem int_at {ns : List Int} {i : Nat} {x : V} (h : (ns.map V.int)[i]? = some x) : ∃ z, x = V.int z := by
  rw [List.getElem?_map] at h
  cases e : ns[i]? with
  | none =>
    rw [e] at h
    cases h
  | some z =>
    rw [e] at h
    exact ⟨z, (Option.some.inj h).symm⟩

/-! ### steps that want one token out: the judgements of the layer from states with a token -/
section
variable {α : Type} {M : Model} {A : Around} {s : Shared}
theorem thnK {t : Sem α} {Q Q' : α → Shared → Prop} {E : Value → Shared → Prop} (hk : 1 ≤ s.toks) (h : wpAny M A t Q E s) (hQ : ∀ a s', 1 ≤ s'.toks → Q a s' → Q' a s') : wpAny M A t Q' E s :=
  wpAny_mono (PySem.wpAny_toks_of hk h) (fun a s' x => hQ a s' x.1 x.2) fun _ _ x => x.2
end
structure ET (X : Cx) (e : Expr) (t : TE) : Prop where
  run : ∀ (pins : List (Addr × Obj)) (s : Shared) (σ : L2.St) (H : Hp) (Q : VK), 1 ≤ s.toks → Inv X pins σ H s → t σ H Q → wpAny (model X.prog X.w) X.A (eval e X.env) (EP X pins σ Q) X.xe s
structure TT' (X : Cx) (e : Expr) (t : TT) : Prop where
  run : ∀ (pins : List (Addr × Obj)) (s : Shared) (σ : L2.St) (H : Hp) (Q : Bool → Hp → Prop), 1 ≤ s.toks → Inv X pins σ H s → t σ H Q → wpAny (model X.prog X.w) X.A (isTrue e X.env (eval e X.env)) (TP X pins σ Q) X.xe s
structure WT (X : Cx) (e : Expr) (t : TT) : Prop where
  run : ∀ (whole : Sem Value) (pins : List (Addr × Obj)) (s : Shared) (σ : L2.St) (H : Hp) (Q : Bool → Hp → Prop), 1 ≤ s.toks → Inv X pins σ H s → t σ H Q → wpAny (model X.prog X.w) X.A (isTrue e X.env whole) (TP X pins σ Q) X.xe s
structure AT (X : Cx) (es : List Expr) (t : TA) : Prop where
  run : ∀ (pos : Pos) (pins : List (Addr × Obj)) (s : Shared) (σ : L2.St) (H : Hp) (Q : List V → Hp → Prop), 1 ≤ s.toks → Inv X pins σ H s → t σ H Q → wpAny (model X.prog X.w) X.A (spliced (backTo pos (starEach es X.env))) (AP X pins σ Q) X.xe s
structure ST (X : Cx) (st : Stmt) (t : TS) : Prop where
  run : ∀ (pins : List (Addr × Obj)) (s : Shared) (σ : L2.St) (H : Hp) (D : Ends), 1 ≤ s.toks → Inv X pins σ H s → t D σ H → wpAny (model X.prog X.w) X.A (exec st X.env) (SP X pins D) X.xe s
structure BT (X : Cx) (st : List Stmt) (t : TS) : Prop where
  run : ∀ (pins : List (Addr × Obj)) (s : Shared) (σ : L2.St) (H : Hp) (D : Ends), 1 ≤ s.toks → Inv X pins σ H s → t D σ H → wpAny (model X.prog X.w) X.A (execs st X.env) (SP X pins D) X.xe s
/-- the same, and behind it a token is out for sure -/
structure AK (X : Cx) (es : List Expr) (t : TA) : Prop where
  run : ∀ (pos : Pos) (pins : List (Addr × Obj)) (s : Shared) (σ : L2.St) (H : Hp) (Q : List V → Hp → Prop), Inv X pins σ H s → t σ H Q → wpAny (model X.prog X.w) X.A (spliced (backTo pos (starEach es X.env))) (fun us s' => 1 ≤ s'.toks ∧ AP X pins σ Q us s') X.xe s
structure EK (X : Cx) (e : Expr) (t : TE) : Prop where
  run : ∀ (pins : List (Addr × Obj)) (s : Shared) (σ : L2.St) (H : Hp) (Q : VK), Inv X pins σ H s → t σ H Q → wpAny (model X.prog X.w) X.A (eval e X.env) (fun u s' => 1 ≤ s'.toks ∧ EP X pins σ Q u s') X.xe s
structure SK (X : Cx) (st : Stmt) (t : TS) : Prop where
  run : ∀ (pins : List (Addr × Obj)) (s : Shared) (σ : L2.St) (H : Hp) (D : Ends), Inv X pins σ H s → t D σ H → wpAny (model X.prog X.w) X.A (exec st X.env) (fun f s' => 1 ≤ s'.toks ∧ SP X pins D f s') X.xe s
structure BK (X : Cx) (st : List Stmt) (t : TS) : Prop where
  run : ∀ (pins : List (Addr × Obj)) (s : Shared) (σ : L2.St) (H : Hp) (D : Ends), Inv X pins σ H s → t D σ H → wpAny (model X.prog X.w) X.A (execs st X.env) (fun f s' => 1 ≤ s'.toks ∧ SP X pins D f s') X.xe s
structure FnT (P : Program) (w : World) (K : PySem.W.Frag) (mg : Str → Option Value) (base : Heap) (CX : CXT) (k : Nat) (f : Addr) (fd : FuncData) (ps : List Str) (sp : Sp) : Prop where
  len : ∀ vs H Q E, sp vs H Q E → vs.length = ps.length
  run : ∀ (A : Around) (outer : List Env) (s : Shared) (H : Hp) (args : Args) (us : List Value) (vs : List V) (Q : VK) (E : XK), 1 ≤ s.toks → Room k A → Env0 P w K mg base A outer s H → BindsTo s fd args (ps.zip us) → Vals vs us → sp vs H Q E →
    codeAny (model P w) A (.call (.ref f) args) (CR CX outer P w H s Q E) s
structure FnK (P : Program) (w : World) (K : PySem.W.Frag) (mg : Str → Option Value) (base : Heap) (CX : CXT) (k : Nat) (f : Addr) (fd : FuncData) (ps : List Str) (sp : Sp) : Prop where
  len : ∀ vs H Q E, sp vs H Q E → vs.length = ps.length
  run : ∀ (A : Around) (outer : List Env) (s : Shared) (H : Hp) (args : Args) (us : List Value) (vs : List V) (Q : VK) (E : XK), Room k A → Env0 P w K mg base A outer s H → BindsTo s fd args (ps.zip us) → Vals vs us → sp vs H Q E →
    codeAny (model P w) A (.call (.ref f) args) (fun r s' => ((∃ e, r = .error e) ∨ 1 ≤ s'.toks) ∧ CR CX outer P w H s Q E r s') s
structure OwnT (P : Program) (w : World) (K : PySem.W.Frag) (mg : Str → Option Value) (base : Heap) (x : Str) (k : Nat) (ps : List Str) (dvs : List V) (sp : Sp) : Prop where
  ex : ∃ f fd ds, FnT P w K mg base CX0 k f fd ps sp ∧ mg x = some (.ref f) ∧ PySem.W.keepIn K (.ref f) = true ∧ Binds K fd ps ds ∧ Vals dvs ds
structure OwnK (P : Program) (w : World) (K : PySem.W.Frag) (mg : Str → Option Value) (base : Heap) (x : Str) (k : Nat) (ps : List Str) (dvs : List V) (sp : Sp) : Prop where
  ex : ∃ f fd ds, FnK P w K mg base CX0 k f fd ps sp ∧ mg x = some (.ref f) ∧ PySem.W.keepIn K (.ref f) = true ∧ Binds K fd ps ds ∧ Vals dvs ds
section
variable {X : Cx} {a b c e o : Expr} {es rest' : List Expr} {ta tb tc te to : TE} {uA uB uC : TT} {tx : TA} {pos : Pos} {st : Stmt} {rest bd bd' : List Stmt} {t u : TS}
theorem ET.of (h : PE X e te) : ET X e te := ⟨fun pins s σ H Q _ I q => h.run pins s σ H Q I q⟩
theorem TT'.of (h : PT X e uA) : TT' X e uA := ⟨fun pins s σ H Q _ I q => h.run pins s σ H Q I q⟩
theorem WT.of (h : PW X e uA) : WT X e uA := ⟨fun wh pins s σ H Q _ I q => h.run wh pins s σ H Q I q⟩
theorem WT.pt (h : WT X e uA) : TT' X e uA := ⟨h.run _⟩
theorem AT.of (h : PA X es tx) : AT X es tx := ⟨fun pos pins s σ H Q _ I q => h.run pos pins s σ H Q I q⟩
theorem ST.of (h : PS X st t) : ST X st t := ⟨fun pins s σ H D _ I q => h.run pins s σ H D I q⟩
theorem BT.of (h : PSs X bd t) : BT X bd t := ⟨fun pins s σ H D _ I q => h.run pins s σ H D I q⟩
/-- arguments -/
theorem at_cons (ha : ET X e te) (hr : AT X es tx) (hs : starEach (e :: es) X.env = (false, eval e X.env) :: starEach es X.env := by rfl) : AT X (e :: es) (tCons te tx) := by
  refine ⟨fun pos pins s σ H Q hk I h => ?_⟩
  rw [hs]
  show wpAny _ _ (spliced ((false, eval e X.env) :: backTo pos (starEach es X.env))) _ _ s
  refine Calls.spliced_cons (thnK hk (ha.run pins s σ H _ hk I h) fun v s1 k1 ⟨x, H1, I1, r1, q1⟩ => ?_)
  exact thn (hr.run pos pins s1 σ H1 _ k1 I1 q1) fun us s2 ⟨xs, H2, I2, r2, q2⟩ => ⟨x :: xs, H2, I2, .cons r1 r2, q2⟩
theorem at_nil : AT X [] tNil := .of pa_nil
theorem binK (ha : ET X a ta) (hb : ET X b tb) {pins : List (Addr × Obj)} {s : Shared} {σ : L2.St} {H : Hp} {R : V → V → Hp → Prop} (hk : 1 ≤ s.toks) (I : Inv X pins σ H s)
    (h : ta σ H fun x H1 => tb σ H1 fun y H2 => R x y H2) {Q : Value → Shared → Prop} {f : Value → Value → Sem Value}
    (hf : ∀ v u s2 x y H2, Inv X pins σ H2 s2 → RelV x v → RelV y u → R x y H2 → wpAny (model X.prog X.w) X.A (f v u) Q X.xe s2) :
    wpAny (model X.prog X.w) X.A (eval a X.env) (fun v s₁ => wpAny (model X.prog X.w) X.A (eval b X.env) (fun u s₂ => wpAny (model X.prog X.w) X.A (f v u) Q X.xe s₂) X.xe s₁) X.xe s := by
  refine thnK hk (ha.run pins s σ H _ hk I h) fun v s1 k1 ⟨x, H1, I1, r1, q1⟩ => ?_
  refine thn (hb.run pins s1 σ H1 _ k1 I1 q1) fun u s2 ⟨y, H2, I2, r2, q2⟩ => ?_
  exact hf v u s2 x y H2 I2 r1 r2 q2
theorem et_op {op : Operator} {r : R2} (ho : OpR X (binaryOp op) r) (ha : ET X a ta) (hb : ET X b tb) : ET X (.BinOp a op b pos) (tOp r ta tb) :=
  ⟨fun pins s σ H Q hk I h => wpAny_BinOp (binK ha hb hk I h fun v u s2 x y H2 I2 rx ry q => ho pins s2 σ H2 x y v u Q I2 rx ry q)⟩
theorem et_ix {r : R2} (hr : IxR X r) (ha : ET X a ta) (hb : ET X b tb) (hs : PlainIx b) : ET X (.Subscript a b pos) (tOp r ta tb) :=
  ⟨fun pins s σ H Q hk I h => Subscript_ (binK ha hb hk I h fun v u s2 x y H2 I2 rx ry q => hr a b pins s2 σ H2 x y v u Q I2 rx ry q (hs _ _))⟩
theorem et_cmpR {op : CmpOp} {r : R2} (ho : OpR X (compareOp op) r) (ha : ET X a ta) (hb : ET X b tb) (hm : behindInMarks op b = false) : ET X (.Compare a [op] [b] pos) (tOp r ta tb) :=
  ⟨fun pins s σ H Q hk I h => wpAny_Compare1 (binK ha hb hk I h fun v u s2 x y H2 I2 rx ry q => ho pins s2 σ H2 x y v u Q I2 rx ry q) hm⟩
theorem tt_cmpR {op : CmpOp} {r : R2} (ho : OpR X (compareOp op) r) (ha : ET X a ta) (hb : ET X b tb) (hm : behindInMarks op b = false) : TT' X (.Compare a [op] [b] pos) (tTest (tOp r ta tb)) := by
  refine ⟨fun pins s σ H Q hk I h => ?_⟩
  refine wpAny_isTrue_Compare1 (thnK hk (ha.run pins s σ H _ hk I h) fun v s1 k1 ⟨x, H1, I1, r1, q1⟩ => thn (hb.run pins s1 σ H1 _ k1 I1 q1) fun u s2 ⟨y, H2, I2, r2, q2⟩ =>
    thn (ho pins s2 σ H2 x y v u _ I2 r1 r2 q2) fun c s3 ⟨z, H3, I3, r3, k, e, q3⟩ => ?_) hm
  subst e
  cases r3
  exact wpAny_truthy_bool ⟨H3, I3, q3⟩
theorem tt_val (h : ET X e te) (he : ∀ whole, isTrue e X.env whole = (do let v ← whole; standAt e.pos; holding [v] (truthy v)) := by intro _; rfl) : TT' X e (tB te) := by
  refine ⟨fun pins s σ H Q hk I hw => ?_⟩
  refine isTrue_plain (thn (h.run pins s σ H _ hk I hw) fun v s1 ⟨x, H1, I1, r1, q1⟩ => ?_) (he _)
  obtain ⟨k, rfl, q⟩ := q1
  cases r1
  exact wpAny_truthy_bool ⟨H1, I1, q⟩
theorem tt_not (ha : TT' X a uA) : TT' X (.UnaryOp .Not a pos) (tNot uA) :=
  ⟨fun pins s σ H Q hk I h => isTrue_not (ha.run pins s σ H (fun c H1 => Q (!c) H1) hk I h)⟩
theorem wt_and1 (ha : TT' X a uA) : WT X (.BoolOp .And [a] pos) uA := by
  refine ⟨fun wh pins s σ H Q hk I h => ?_⟩
  refine isTrue_and (thn (ha.run pins s σ H Q hk I h) fun c s1 e => ?_)
  cases c with
  | true => exact isTrue_and_nil e
  | false => exact e
theorem wt_or1 (ha : TT' X a uA) : WT X (.BoolOp .Or [a] pos) uA := by
  refine ⟨fun wh pins s σ H Q hk I h => ?_⟩
  refine isTrue_or (thn (ha.run pins s σ H Q hk I h) fun c s1 e => ?_)
  cases c with
  | false => exact isTrue_or_nil e
  | true => exact e
theorem wt_and (ha : TT' X a uA) (hb : WT X (.BoolOp .And (b :: rest') pos) uB) : WT X (.BoolOp .And (a :: b :: rest') pos) (tAnd uA uB) := by
  refine ⟨fun wh pins s σ H Q hk I h => ?_⟩
  refine isTrue_and (thnK hk (ha.run pins s σ H _ hk I h) fun c s1 k1 ⟨H1, I1, q1⟩ => ?_)
  cases c with
  | true => exact hb.run wh pins s1 σ H1 Q k1 I1 q1
  | false => exact ⟨H1, I1, q1⟩
theorem wt_or (ha : TT' X a uA) (hb : WT X (.BoolOp .Or (b :: rest') pos) uB) : WT X (.BoolOp .Or (a :: b :: rest') pos) (tOr uA uB) := by
  refine ⟨fun wh pins s σ H Q hk I h => ?_⟩
  refine isTrue_or (thnK hk (ha.run pins s σ H _ hk I h) fun c s1 k1 ⟨H1, I1, q1⟩ => ?_)
  cases c with
  | true => exact ⟨H1, I1, q1⟩
  | false => exact hb.run wh pins s1 σ H1 Q k1 I1 q1
theorem et_one {op} (h : ET X a ta) : ET X (.BoolOp op [a] pos) ta := ⟨fun pins s σ H Q hk I hw => BoolOp_one (h.run pins s σ H Q hk I hw)⟩
theorem et_and (ha : ET X a ta) (hb : ET X (.BoolOp .And (b :: rest') pos) tb) : ET X (.BoolOp .And (a :: b :: rest') pos) (tAndV ta tb) := by
  refine ⟨fun pins s σ H Q hk I h => ?_⟩
  refine BoolOp_and (thnK hk (ha.run pins s σ H _ hk I h) fun v s1 k1 ⟨x, H1, I1, r1, q1⟩ => ?_)
  obtain ⟨c, rfl, q1⟩ := q1
  cases r1
  refine wpAny_truthy_bool ?_
  cases c with
  | true => exact hb.run pins s1 σ H1 Q k1 I1 q1
  | false => exact ⟨.bl false, H1, I1, rfl, q1⟩
theorem et_or (ha : ET X a ta) (hb : ET X (.BoolOp .Or (b :: rest') pos) tb) : ET X (.BoolOp .Or (a :: b :: rest') pos) (tOrV ta tb) := by
  refine ⟨fun pins s σ H Q hk I h => ?_⟩
  refine BoolOp_or (thnK hk (ha.run pins s σ H _ hk I h) fun v s1 k1 ⟨x, H1, I1, r1, q1⟩ => ?_)
  obtain ⟨c, rfl, q1⟩ := q1
  cases r1
  refine wpAny_truthy_bool ?_
  cases c with
  | false => exact hb.run pins s1 σ H1 Q k1 I1 q1
  | true => exact ⟨.bl true, H1, I1, rfl, q1⟩
theorem et_not (ha : ET X a ta) : ET X (.UnaryOp .Not a pos) (tNotV ta) := by
  refine ⟨fun pins s σ H Q hk I h => ?_⟩
  refine UnaryOp_ (thn (ha.run pins s σ H _ hk I h) fun v s1 ⟨x, H1, I1, r1, q1⟩ => ?_)
  obtain ⟨c, rfl, q1⟩ := q1
  cases r1
  exact not_of (wpAny_truthy_bool ⟨.bl (!c), H1, I1, rfl, q1⟩)
theorem et_ifExp (hc : TT' X c uC) (ha : ET X a ta) (hb : ET X b tb) : ET X (.IfExp c a b pos) (tIf uC ta tb) := by
  refine ⟨fun pins s σ H Q hk I h => ?_⟩
  refine wpAny_IfExp (thnK hk (hc.run pins s σ H _ hk I h) fun d s1 k1 ⟨H1, I1, q1⟩ => ?_)
  cases d with
  | true => exact ha.run pins s1 σ H1 Q k1 I1 q1
  | false => exact hb.run pins s1 σ H1 Q k1 I1 q1
theorem et_tup {x1} (h : AT X es tx) : ET X (.Tuple es x1 pos) (tTup tx) := by
  refine ⟨fun pins s σ H Q hk I hq => ?_⟩
  refine wpAny_Tuple_spliced (thn (h.run pos pins s σ H _ hk I hq) fun us s1 ⟨xs, H1, I1, r, z, q⟩ => ⟨by rw [← r.length]; exact z, ?_⟩)
  have hf : H1 s1.heap.objs.size = none := I1.hok.fresh (Nat.le_refl _)
  refine ⟨.ref s1.heap.objs.size, upd H1 s1.heap.objs.size (.tup xs), I1.laid (t' := s1.toks) (fun b u e => Heap.get?_push_of_some _ e) (Nat.le_refl _) ?_, rfl, q _ hf⟩
  exact ⟨z, us, r, ⟨_, Heap.get?_push_size _ rfl, rfl, _, rfl⟩⟩
theorem et_lst (h : AT X es tx) : ET X (.List es pos) (tLst tx) := by
  refine ⟨fun pins s σ H Q hk I hq => ?_⟩
  refine wpAny_List_spliced (thn (h.run pos pins s σ H _ hk I hq) fun us s1 ⟨xs, H1, I1, r, z, q⟩ => ⟨by rw [← r.length]; exact z, ?_⟩)
  have hf : H1 s1.heap.objs.size = none := I1.hok.fresh (Nat.le_refl _)
  refine ⟨.ref s1.heap.objs.size, upd H1 s1.heap.objs.size (.lst xs), I1.laid (t' := s1.toks) (fun b u e => Heap.get?_push_of_some _ e) (Nat.le_refl _) ?_, rfl, q _ hf⟩
  exact ⟨z, us, 0, r, Heap.get?_push_size _ rfl⟩
/-- a method of a built-in type -/
theorem et_bm {T id : String} {name : Str} {apos cpos : Pos} {r : V → List V → Hp → VK → Prop} (pa : PlainAttrs T) (slot : Slot T name id) (hty : typeOf (.builtin id) = pure (.type "method_descriptor")) (hm : MtR X id r) (ho : ET X o to) (ha : AT X (e :: es) tx)
    (hbase : attributeBase o name X.env (eval o X.env) = eval o X.env := by rfl)
    (hfew : ((backTo cpos (starEach (e :: es) X.env)).all (fun x => !x.1) && (backToKw cpos (keywordEach [] X.env)).all (fun x => x.1.isSome)
      && decide ((e :: es).length + ([] : List Keyword).length + (if ([] : List Keyword).isEmpty then 0 else 1) < 30)) = true := by rfl)
    (hline : (apos.endLine == cpos.line) = true := by rfl) (hs : starEach (e :: es) X.env = (false, eval e X.env) :: starEach es X.env := by rfl) (hplain : (backTo cpos (starEach es X.env)).any (·.1) = false := by rfl) :
    ET X (.Call (.Attribute o name apos) (e :: es) [] cpos) (tBM X.K T r to tx) := by
  refine ⟨fun pins s σ H Q hk I h => ?_⟩
  refine wpAny_Call_method_late hbase hfew hline rfl (thnK hk (ho.run pins s σ H _ hk I h) fun v s1 k1 ⟨x, H1, I1, r1, ty, q1⟩ => ?_)
  obtain ⟨h1, h2⟩ := tyV_is I1 r1 ty
  refine ⟨T, id, pa, slot, hty, h1, h2, ?_⟩
  have hA := ha.run cpos pins s1 σ H1 _ k1 I1 q1
  rw [hs] at hA ⊢
  refine Calls.callWith_builtin (by show (false || (backTo cpos (starEach es X.env)).any (·.1)) = false; rw [hplain] <;> rfl) (Calls.evalArgs_plain ?_)
  exact thn hA fun us s2 ⟨vs, H2, I2, r2, q2⟩ => hm pins s2 σ H2 x vs v us Q I2 r1 r2 q2
/-- statements -/
theorem st_expr (he : ET X e te) (hs : swapsWith e none pos.line X.env = pure false := by rfl) : ST X (.Expr e pos) (tDrop te) :=
  ⟨fun pins s σ H D hk I h => wpAny_Expr_any (thn (he.run pins s σ H _ hk I h) fun v s1 ⟨x, H1, I1, r1, q1⟩ => ⟨σ, H1, I1, q1⟩) I.quiet hs⟩
theorem st_ret (he : ET X e te) : ST X (.Return (some e) pos) (tRet te) :=
  ⟨fun pins s σ H D hk I h => wpAny_Return_some (thn (he.run pins s σ H _ hk I h) fun v s1 ⟨x, H1, I1, r1, q1⟩ => ⟨x, σ, H1, I1, r1, q1⟩)⟩
theorem st_if (hc : TT' X c uC) (ha : BT X bd t) (hb : BT X bd' u) : ST X (.If c bd bd' pos) (tIfS uC t u) := by
  refine ⟨fun pins s σ H D hk I h => ?_⟩
  refine wpAny_If (thnK hk (hc.run pins s σ H _ hk I h) fun d s1 k1 ⟨H1, I1, q1⟩ => ?_)
  cases d with
  | true => exact ha.run pins s1 σ H1 D k1 I1 q1
  | false => exact hb.run pins s1 σ H1 D k1 I1 q1
theorem st_asg {tg : Expr} {g : TG} (he : ET X e te) (hg : PG X tg g) (hs : swapsWithSole [tg] e pos.line X.env = pure false := by rfl) (hw : swappedStores [tg] e X.env = pure none := by rfl)
    (h1 : (assignEach [tg] X.env).map (·.2) = [assign tg X.env] := by rfl) : ST X (.Assign [tg] e pos) (tAsg te g) := by
  refine ⟨fun pins s σ H D hk I h => ?_⟩
  refine wpAny_Assign_stores (thn (he.run pins s σ H _ hk I h) fun v s1 ⟨x, H1, I1, r1, q1⟩ => ?_) hs hw
  rw [h1]
  exact thn (hg.run pins s1 σ H1 x v _ I1 r1 q1) fun _ s2 q => q
theorem st_set {i : Nat} {x : Str} {pos' : Pos} (hN : X.N.Nodup) (hi : X.N[i]? = some x) (hx : Loc X.env.scope x) (he : ET X e te) (hs : swapsWith e (some (.Name x pos')) pos.line X.env = pure false := by rfl) (hf : X.fn x = true ∨ X.env.scope.names.lookup x = some .local := by first | exact .inl rfl | exact .inr rfl | assumption) :
    ST X (.Assign [.Name x pos'] e pos) (tAsg te (gName i)) := by
  refine ⟨fun pins s σ H D hk I h => ?_⟩
  refine wpAny_Assign_Name (thn (he.run pins s σ H _ hk I h) fun v s1 ⟨y, H1, I1, r1, q1⟩ => ?_) hs
  exact store_ok I1 hN hi hx r1 (fun s2 I2 => ⟨_, H1, I2, q1⟩) hf
theorem bt_nil : BT X [] tNext := .of pss_nil
theorem bt_one (h1 : ST X st t) : BT X [st] t := by
  refine ⟨fun pins s σ H D hk I h => ?_⟩
  refine wpAny_execs_cons (thn (h1.run pins s σ H D hk I h) fun f s1 q => ?_)
  cases f with
  | next => exact wpAny_execs_nil q
  | ret v => exact q
  | brk => exact q
  | cont => exact q
theorem bt_cons (h1 : ST X st t) (h2 : BT X rest u) : BT X (st :: rest) (tSeq t u) := by
  refine ⟨fun pins s σ H D hk I h => ?_⟩
  refine wpAny_execs_cons (thnK hk (h1.run pins s σ H { D with nx := u D } hk I h) fun f s1 k1 q => ?_)
  cases f with
  | next =>
    obtain ⟨σ', H', I', q⟩ := q
    exact h2.run pins s1 σ' H' D k1 I' q
  | ret v => exact q
  | brk => exact q
  | cont => exact q
theorem bt_cut (h1 : ST X st t) (h2 : BT X rest u) : BT X (st :: rest) (tCut t u) := by
  refine ⟨fun pins s σ H D hk I h => ?_⟩
  obtain ⟨Mid, hm, hu⟩ := h
  refine wpAny_execs_cons (thnK hk (h1.run pins s σ H { D with nx := Mid } hk I hm) fun f s1 k1 q => ?_)
  cases f with
  | next =>
    obtain ⟨σ', H', I', q⟩ := q
    exact h2.run pins s1 σ' H' D k1 I' (hu σ' H' q)
  | ret v => exact q
  | brk => exact q
  | cont => exact q
/-- behind a statement that gives a token out -/
theorem pssk_cons (h1 : SK X st t) (h2 : BT X rest u) : PSs X (st :: rest) (tSeq t u) := by
  refine ⟨fun pins s σ H D I h => ?_⟩
  refine wpAny_execs_cons (thn (h1.run pins s σ H { D with nx := u D } I h) fun f s1 ⟨k1, q⟩ => ?_)
  cases f with
  | next =>
    obtain ⟨σ', H', I', q⟩ := q
    exact h2.run pins s1 σ' H' D k1 I' q
  | ret v => exact q
  | brk => exact q
  | cont => exact q
theorem st_for {iter tg : Expr} {wi : TI} {g : TG} {tb : TS} (hp : PassesOwn (model X.prog X.w) X.A X.env X.xe) (hc : X.calm = true) (hi : PI X tg iter wi) (hg : PG X tg g) (hb : BT X bd tb)
    (hs : ∀ x, foldedSetIterable iter X.env x = pure x := by intro _; rfl) : ST X (.For tg iter bd [] pos) (tFor wi g tb) := by
  refine ⟨fun pins s σ H D hk I h => ?_⟩
  refine wpAny_For (thnK hk (hi.run pins s σ H _ I h) fun v s1 k1 h1 => thnK k1 h1 fun itv s2 k2 h2 => ?_) hs
  obtain ⟨it, fp, tn, J, H2, e, I2, T, st2, f2, W, ⟨m0, w0⟩, turn⟩ := h2
  subst e
  have stat : ∀ {H' : Hp}, (∀ b ∈ fp, H' b = none) → ∀ b ∈ fp, FpOk X pins H' b := fun hn b hb => ⟨hn b hb, (f2 b hb).2⟩
  refine codeAny_forLoop_any (fun n s' => 1 ≤ s'.toks ∧ ∃ i σ' H', Inv X pins σ' H' s' ∧ tn i s'.heap ∧ (∀ b ∈ fp, H' b = none) ∧ W i n σ' H') ?_ m0 ⟨k2, 0, σ, H2, I2, st2, fun b hb => (f2 b hb).1, w0⟩
  rintro n s3 ⟨k3, i, σ3, H3, I3, st3, fr3, w3⟩
  rcases turn i n σ3 H3 w3 with ⟨stop, qn⟩ | ⟨go, N, hN, step⟩
  · refine wpAny_passesOwn hp (thn (T.done X rfl rfl rfl hc i pins s3 σ3 H3 X.xe I3 (stat fr3) st3 stop) fun r s4 ⟨hr, I4⟩ => ?_)
    subst hr
    exact wpAny_execs_nil ⟨σ3, H3, I4, qn⟩
  · refine wpAny_passesOwn hp (thnK k3 (T.item X rfl rfl rfl hc i pins s3 σ3 H3 X.xe I3 (stat fr3) st3 go) fun r s4 k4 ⟨u, hr, h4⟩ => ?_)
    subst hr
    refine wpAny_passesOwn hp (thnK k4 h4 fun _ s5 k5 ⟨x, H5, I5, r5, y5, st5, fr5⟩ => ?_)
    have I5' := I5.pinned (stat fr5) (T.obj _ _ st5)
    refine wpAny_passesOwn hp (thnK k5 (hg.run _ s5 σ3 H5 x u _ I5' r5 (step x H5 y5)) fun _ s6 k6 ⟨σ6, H6, I6, q6⟩ => ?_)
    refine wpAny_passesOwn hp (thnK k6 (hb.run _ s6 σ6 H6 _ k6 I6 q6) fun f s7 k7 q7 => ?_)
    have again : ∀ {σ7 : L2.St} {H7 : Hp}, Inv X (pins ++ pinsAt fp s5.heap) σ7 H7 s7 → N σ7 H7 → ∃ m, m < n ∧ 1 ≤ s7.toks ∧ ∃ i σ' H', Inv X pins σ' H' s7 ∧ tn i s7.heap ∧ (∀ b ∈ fp, H' b = none) ∧ W i m σ' H' := fun {σ7 H7} I7 n7 => by
      obtain ⟨m', hm, w7⟩ := hN σ7 H7 n7
      refine ⟨m', hm, k7, i + 1, σ7, H7, I7.unpinned, T.keep _ _ _ st5 fun b hb o e => (I7.pin (b, o) (List.mem_append_right _ (List.mem_append_right _ (mem_pinsAt hb e)))).1, fun b hb => ?_, w7⟩
      obtain ⟨o, e, d⟩ := T.obj _ _ st5 b hb
      exact (I7.pin (b, o) (List.mem_append_right _ (List.mem_append_right _ (mem_pinsAt hb e)))).2.1
    cases f with
    | next => obtain ⟨σ7, H7, I7, n7⟩ := q7; exact again I7 n7
    | cont => obtain ⟨σ7, H7, I7, n7⟩ := q7; exact again I7 n7
    | brk => obtain ⟨σ7, H7, I7, q7⟩ := q7; exact ⟨σ7, H7, I7.unpinned, q7⟩
    | ret v => obtain ⟨x7, σ7, H7, I7, r7, q7⟩ := q7; exact ⟨x7, σ7, H7, I7.unpinned, r7, q7⟩
theorem st_while {tb : TS} (hp : PassesOwn (model X.prog X.w) X.A X.env X.xe) (hc : TT' X c uC) (hb : BT X bd tb) : ST X (.While c bd [] pos) (tWhile uC tb) := by
  refine ⟨fun pins s σ H D hk I h => ?_⟩
  obtain ⟨W, ⟨m0, w0⟩, turn⟩ := h
  refine wpAny_While (codeAny_whileLoop (fun n s' => 1 ≤ s'.toks ∧ ∃ σ' H', Inv X pins σ' H' s' ∧ W n σ' H') ?_ m0 ⟨hk, σ, H, I, w0⟩)
  rintro n s1 ⟨k1, σ1, H1, I1, w1⟩
  refine wpAny_passesOwn hp (thnK k1 (hc.run pins s1 σ1 H1 _ k1 I1 (turn n σ1 H1 w1)) fun b s2 k2 ⟨H2, I2, q2⟩ => ?_)
  cases b with
  | true =>
    obtain ⟨N, hN, q2⟩ := q2
    rw [if_pos rfl]
    refine wpAny_passesOwn hp (thnK k2 (hb.run pins s2 σ1 H2 _ k2 I2 q2) fun f s3 k3 q3 => ?_)
    cases f with
    | next =>
      obtain ⟨σ3, H3, I3, n3⟩ := q3
      obtain ⟨m', hm, w3⟩ := hN σ3 H3 n3
      exact ⟨m', hm, k3, σ3, H3, I3, w3⟩
    | cont =>
      obtain ⟨σ3, H3, I3, n3⟩ := q3
      obtain ⟨m', hm, w3⟩ := hN σ3 H3 n3
      exact ⟨m', hm, k3, σ3, H3, I3, w3⟩
    | brk => exact q3
    | ret v => exact q3
  | false =>
    rw [if_neg Bool.false_ne_true]
    exact wpAny_execs_nil ⟨σ1, H2, I2, q2⟩
/-- calls of own defs -/
theorem run_fnT {CX : CXT} {k : Nat} {f : Addr} {fd : FuncData} {ps : List Str} {ds : List Value} {dvs : List V} {sp : Sp} {E : XK} {pins : List (Addr × Obj)} {σ : L2.St} {H : Hp} {s : Shared} {Q : VK} {us : List Value} {vs : List V} (F : FnT X.prog X.w X.K X.mg X.base CX k f fd ps sp) (hr : Room k X.A) (hb : Binds X.K fd ps ds) (hd : Vals dvs ds) (hx : Passes CX X E)
    (hk : 1 ≤ s.toks) (I : Inv X pins σ H s) (r : Vals vs us) (h : sp (vs ++ dvs) H Q E) : wpAny (model X.prog X.w) X.A (call (.ref f) us) (EP X pins σ Q) X.xe s := by
  have r2 : Vals (vs ++ dvs) (us ++ ds) := r.append hd
  have hl : (us ++ ds).length = ps.length := by rw [← r2.length]; exact F.len _ _ _ _ h
  refine wpAny_call (codeAny_mono (F.run X.A X.stack s H ⟨us, []⟩ (us ++ ds) (vs ++ dvs) Q E hk hr I.env0 (hb s us I.kIn hl) r2 h) fun r s' hq => ?_)
  cases r with
  | error e => exact hx pins σ H s e s' I hq
  | ok fl =>
    cases fl with
    | ret u => exact I.after hq
    | next => exact False.elim hq
    | brk => exact False.elim hq
    | cont => exact False.elim hq
theorem run_fnK {CX : CXT} {k : Nat} {f : Addr} {fd : FuncData} {ps : List Str} {ds : List Value} {dvs : List V} {sp : Sp} {E : XK} {pins : List (Addr × Obj)} {σ : L2.St} {H : Hp} {s : Shared} {Q : VK} {us : List Value} {vs : List V} (F : FnK X.prog X.w X.K X.mg X.base CX k f fd ps sp) (hr : Room k X.A) (hb : Binds X.K fd ps ds) (hd : Vals dvs ds) (hx : Passes CX X E)
    (I : Inv X pins σ H s) (r : Vals vs us) (h : sp (vs ++ dvs) H Q E) : wpAny (model X.prog X.w) X.A (call (.ref f) us) (fun u s' => 1 ≤ s'.toks ∧ EP X pins σ Q u s') X.xe s := by
  have r2 : Vals (vs ++ dvs) (us ++ ds) := r.append hd
  have hl : (us ++ ds).length = ps.length := by rw [← r2.length]; exact F.len _ _ _ _ h
  refine wpAny_call (codeAny_mono (F.run X.A X.stack s H ⟨us, []⟩ (us ++ ds) (vs ++ dvs) Q E hr I.env0 (hb s us I.kIn hl) r2 h) fun r s' hq => ?_)
  cases r with
  | error e => exact hx pins σ H s e s' I hq.2
  | ok fl =>
    cases fl with
    | ret u => exact ⟨hq.1.elim (fun ⟨_, z⟩ => nomatch z) _root_.id, I.after hq.2⟩
    | next => exact False.elim hq.2
    | brk => exact False.elim hq.2
    | cont => exact False.elim hq.2
variable {x : Str} {k : Nat} {ps : List Str} {dvs : List V} {sp : Sp} {p : Pos}
theorem et_own (O : OwnT X.prog X.w X.K X.mg X.base x k ps dvs sp) (hr : Room k X.A) (hg : Gl X x) (ha : AT X (e :: es) tx) (hdb : (x == ("__debug__" : Str)) = false := by decide) (he : starEach (e :: es) X.env = (false, eval e X.env) :: starEach es X.env := by rfl) (hpl : (backTo pos (starEach es X.env)).any (·.1) = false := by rfl) :
    ET X (.Call (.Name x p) (e :: es) [] pos) (tCall sp dvs E0 tx) := by
  obtain ⟨f, fd, ds, F, hm, hkp, hb, hd⟩ := O.ex
  refine ⟨fun pins s σ H Q hk I h => ?_⟩
  refine wpAny_Call_Name_kw (ld_glob I hg hm ?_ hdb)
  refine PySem.W.callWith_K (h₀ := X.base) I.ok.mod.kin hkp (thnK hk (ha.run pos pins s σ H _ hk I h) fun us s1 k1 ⟨vs, H1, I1, r, q⟩ => ⟨I1.kIn, ?_⟩) he hpl
  exact run_fnT F hr hb hd pass0 k1 I1 r q
/-- a call of a def without tokens' care, its arguments with it -/
theorem et_ownP (O : Own X.prog X.w X.K X.mg X.base x k ps dvs sp) (hr : Room k X.A) (hg : Gl X x) (ha : AT X (e :: es) tx) (hdb : (x == ("__debug__" : Str)) = false := by decide) (he : starEach (e :: es) X.env = (false, eval e X.env) :: starEach es X.env := by rfl) (hpl : (backTo pos (starEach es X.env)).any (·.1) = false := by rfl) :
    ET X (.Call (.Name x p) (e :: es) [] pos) (tCall sp dvs E0 tx) := by
  obtain ⟨f, fd, ds, F, hm, hkp, hb, hd⟩ := O.ex
  refine ⟨fun pins s σ H Q hk I h => ?_⟩
  refine wpAny_Call_Name_kw (ld_glob I hg hm ?_ hdb)
  refine PySem.W.callWith_K (h₀ := X.base) I.ok.mod.kin hkp (thnK hk (ha.run pos pins s σ H _ hk I h) fun us s1 k1 ⟨vs, H1, I1, r, q⟩ => ⟨I1.kIn, ?_⟩) he hpl
  exact run_fn F hr hb hd pass0 I1 r q
theorem ek_own (O : OwnK X.prog X.w X.K X.mg X.base x k ps dvs sp) (hr : Room k X.A) (hg : Gl X x) (ha : PA X (e :: es) tx) (hdb : (x == ("__debug__" : Str)) = false := by decide) (he : starEach (e :: es) X.env = (false, eval e X.env) :: starEach es X.env := by rfl) (hpl : (backTo pos (starEach es X.env)).any (·.1) = false := by rfl) :
    EK X (.Call (.Name x p) (e :: es) [] pos) (tCall sp dvs E0 tx) := by
  obtain ⟨f, fd, ds, F, hm, hkp, hb, hd⟩ := O.ex
  refine ⟨fun pins s σ H Q I h => ?_⟩
  refine wpAny_Call_Name_kw (ld_glob I hg hm ?_ hdb)
  refine PySem.W.callWith_K (h₀ := X.base) I.ok.mod.kin hkp (thn (ha.run pos pins s σ H _ I h) fun us s1 ⟨vs, H1, I1, r, q⟩ => ⟨I1.kIn, ?_⟩) he hpl
  exact run_fnK F hr hb hd pass0 I1 r q
theorem sk_set {i : Nat} {y : Str} {pos' : Pos} (hN : X.N.Nodup) (hi : X.N[i]? = some y) (hx : Loc X.env.scope y) (he : EK X e te) (hs : swapsWith e (some (.Name y pos')) pos.line X.env = pure false := by rfl) (hf : X.fn y = true ∨ X.env.scope.names.lookup y = some .local := by first | exact .inl rfl | exact .inr rfl | assumption) :
    SK X (.Assign [.Name y pos'] e pos) (tAsg te (gName i)) := by
  refine ⟨fun pins s σ H D I h => ?_⟩
  refine wpAny_Assign_Name (thn (he.run pins s σ H _ I h) fun v s1 ⟨k1, z, H1, I1, r1, q1⟩ => ?_) hs
  exact thnK k1 (store_ok (Q := fun _ s2 => SP X pins D .next s2) I1 hN hi hx r1 (fun s2 I2 => ⟨_, H1, I2, q1⟩) hf) fun _ s2 k2 q => ⟨k2, q⟩
/-- what gives a token out: a written number among the items of a list -/
theorem ek_int {n : Int} {j : Nat} : EK X (.Constant (.int n) j pos) (tC (.int n)) :=
  ⟨fun pins s σ H Q I h => wpAny_Constant_int ⟨Nat.le_add_left 1 _, .int n, H, I.tok _, ⟨_, rfl⟩, h⟩⟩
theorem ak_here (ha : EK X e te) (hr : PA X es tx) (hs : starEach (e :: es) X.env = (false, eval e X.env) :: starEach es X.env := by rfl) : AK X (e :: es) (tCons te tx) := by
  refine ⟨fun pos pins s σ H Q I h => ?_⟩
  rw [hs]
  show wpAny _ _ (spliced ((false, eval e X.env) :: backTo pos (starEach es X.env))) _ _ s
  refine Calls.spliced_cons (thn (ha.run pins s σ H _ I h) fun v s1 ⟨k1, x, H1, I1, r1, q1⟩ => ?_)
  exact thnK k1 (hr.run pos pins s1 σ H1 _ I1 q1) fun us s2 k2 ⟨xs, H2, I2, r2, q2⟩ => ⟨k2, x :: xs, H2, I2, .cons r1 r2, q2⟩
theorem ak_there (ha : PE X e te) (hr : AK X es tx) (hs : starEach (e :: es) X.env = (false, eval e X.env) :: starEach es X.env := by rfl) : AK X (e :: es) (tCons te tx) := by
  refine ⟨fun pos pins s σ H Q I h => ?_⟩
  rw [hs]
  show wpAny _ _ (spliced ((false, eval e X.env) :: backTo pos (starEach es X.env))) _ _ s
  refine Calls.spliced_cons (thn (ha.run pins s σ H _ I h) fun v s1 ⟨x, H1, I1, r1, q1⟩ => ?_)
  exact thn (hr.run pos pins s1 σ H1 _ I1 q1) fun us s2 ⟨k2, xs, H2, I2, r2, q2⟩ => ⟨k2, x :: xs, H2, I2, .cons r1 r2, q2⟩
theorem ek_lst (h : AK X es tx) : EK X (.List es pos) (tLst tx) := by
  refine ⟨fun pins s σ H Q I hq => ?_⟩
  refine wpAny_List_spliced (thn (h.run pos pins s σ H _ I hq) fun us s1 ⟨k1, xs, H1, I1, r, z, q⟩ => ⟨by rw [← r.length]; exact z, ?_⟩)
  have hf : H1 s1.heap.objs.size = none := I1.hok.fresh (Nat.le_refl _)
  refine ⟨k1, .ref s1.heap.objs.size, upd H1 s1.heap.objs.size (.lst xs), I1.laid (t' := s1.toks) (fun b u e => Heap.get?_push_of_some _ e) (Nat.le_refl _) ?_, rfl, q _ hf⟩
  exact ⟨z, us, 0, r, Heap.get?_push_size _ rfl⟩
theorem sk_ret (he : EK X e te) : SK X (.Return (some e) pos) (tRet te) :=
  ⟨fun pins s σ H D I h => wpAny_Return_some (thn (he.run pins s σ H _ I h) fun v s1 ⟨k1, x, H1, I1, r1, q1⟩ => ⟨k1, x, σ, H1, I1, r1, q1⟩)⟩
theorem bk_one (h1 : SK X st t) : BK X [st] t := by
  refine ⟨fun pins s σ H D I h => ?_⟩
  refine wpAny_execs_cons (thn (h1.run pins s σ H D I h) fun f s1 ⟨k1, q⟩ => ?_)
  cases f with
  | next => exact wpAny_execs_nil ⟨k1, q⟩
  | ret v => exact ⟨k1, q⟩
  | brk => exact ⟨k1, q⟩
  | cont => exact ⟨k1, q⟩
end

/-! ### defs by their bodies: plain, from states with a token, giving one out -/
theorem BT.nox {X : Cx} {st : List Stmt} {t : TS} (h : BT X.nox st t) : BT X st t := ⟨fun pins s σ H D hk I hw =>
  wpAny_mono (h.run pins s σ H D hk (I.wish _) hw) (fun _ _ q => q.unwish) fun _ _ z => False.elim z⟩
theorem BK.nox {X : Cx} {st : List Stmt} {t : TS} (h : BK X.nox st t) : BK X st t := ⟨fun pins s σ H D I hw =>
  wpAny_mono (h.run pins s σ H D (I.wish _) hw) (fun _ _ q => ⟨q.1, q.2.unwish⟩) fun _ _ z => False.elim z⟩
abbrev Fn (K : PySem.W.Frag) (x : Str) (st : Stmt) (dvs : List V) (f : Addr) (fd : FuncData) : Prop := FunD K x x (defArgs st) (defBody st) (defScope st) dvs [] f fd
section
variable {P : Program} {w : World} {K : PySem.W.Frag} {mg : Str → Option Value} {base : Heap} {x : Str} {st : Stmt} {dvs : List V} {f : Addr} {fd : FuncData} {N ps : List Str} {k : Nat} {sp : Sp}
theorem Fn.mk' {oc dV kV doc pm cdv ct : Value} {od an : Option Addr} {osl : Array (Option Value)} (l : K.lookup f = some ⟨oc, od, .func (PySem.W.fnOf x x (defArgs st) (defBody st) (defScope st) dV kV doc pm an cdv ct), osl⟩)
    (c : PySem.W.codeIn K cdv x = true) (h : PySem.W.keepIn K (.ref f) = true) (d : DflV K dV dvs) : Fn K x st dvs f (PySem.W.fnOf x x (defArgs st) (defBody st) (defScope st) dV kV doc pm an cdv ct) :=
  ⟨⟨oc, od, dV, kV, doc, pm, an, cdv, ct, osl, rfl, l, c, d, .inl rfl⟩, h⟩
theorem Fn.okN (F : Fn K x st dvs f fd) (S : FnScope N ps (defScope st)) (len : ∀ vs H Q E, sp vs H Q E → vs.length = ps.length)
    (hbody : ∀ (cdv : Value) (A : Around) (outer : List Env) (s : Shared) (H : Hp) (vs : List V) (Q : VK) (E : XK), Room k (A.deeper (envOfC x (defScope st) s.heap.objs.size f cdv)) → sp vs H Q E →
      ∃ t, PSs (cxOf CX0 P w K mg base N x (defScope st) f cdv A outer s H E).nox (defBody st) t ∧ t { nx := fun _ H' => Q .non H', rt := Q } (start N vs) H) : FnOk P w K mg base CX0 (k + 1) f fd ps sp :=
  FunD.ok F S len fun cdv A outer s H vs Q E hr hsp => by
    obtain ⟨t, h, q⟩ := hbody cdv A outer s H vs Q E hr hsp
    exact ⟨t, h.nox, q⟩
theorem Fn.okT (F : Fn K x st dvs f fd) (S : FnScope N ps (defScope st)) (len : ∀ vs H Q E, sp vs H Q E → vs.length = ps.length)
    (hbody : ∀ (cdv : Value) (A : Around) (outer : List Env) (s : Shared) (H : Hp) (vs : List V) (Q : VK) (E : XK), Room k (A.deeper (envOfC x (defScope st) s.heap.objs.size f cdv)) → sp vs H Q E →
      ∃ t, BT (cxOf CX0 P w K mg base N x (defScope st) f cdv A outer s H E).nox (defBody st) t ∧ t { nx := fun _ H' => Q .non H', rt := Q } (start N vs) H) : FnT P w K mg base CX0 (k + 1) f fd ps sp := by
  obtain ⟨oc, od, dV, kV, doc, pm, an, cdv, ct, osl, rfl, lk, hcd, _, _⟩ := F.ex
  refine ⟨len, fun A outer s H args us vs Q E hk hr e0 hb r hsp => ?_⟩
  have hl := len _ _ _ _ hsp
  have KX : K.In s.heap := e0.mod.kin.keeps fun b o e => (e0.bs b o e).1
  have lim : s.heap.NoLimit := e0.mod.nolimit.keeps fun b o e => (e0.bs b o e).1
  have hkind : ∀ y ∈ ps.zip us, (defScope st).names.lookup y.1 = some .local ∨ ((defScope st).names.lookup y.1 = some .cell ∧ ((cellsFrom (s.heap.objs.size + 1) (defScope st).names []).lookup y.1).isSome = true) := fun ⟨n, v⟩ hy => by
    rcases S.par n (List.of_mem_zip hy).1 with q | q
    · exact .inl q
    · exact .inr ⟨q, PySem.W.cellsFrom_some _ _ _ (.inl q)⟩
  refine codeAny_call_function hr.depth (KX _ _ lk) rfl S.co S.gen rfl (PySem.W.codeRec_of KX hcd) (hb _ _ _ _ ?_)
  refine PySem.wpAny_with_toks hk ?_
  refine wpAny_newFunctionEnv_cells S.kind hkind fun env he s1 xx => ?_
  intro k1
  subst he
  refine ⟨lim.keeps xx.toInCall.keep, codeAny_func ?_⟩
  obtain ⟨t, ht, hq⟩ := hbody cdv A outer s H vs Q E (hr.deeper _) hsp
  have I : Inv (cxOf CX0 P w K mg base N x (defScope st) f cdv A outer s H E) [] (start N vs) H s1 := inv_start S hr.hd e0 hl r xx
  refine wpAny_mono (ht.nox.run [] s1 (start N vs) H _ k1 I hq) (fun fl s' hs => ?_) fun e s' hs => hs
  have fin : ∀ {σ' : L2.St} {H' : Hp} {v : V} {u : Value}, Inv (cxOf CX0 P w K mg base N x (defScope st) f cdv A outer s H E) [] σ' H' s' → RelV v u → Q v H' → CE outer P w H s Q u s' :=
    fun {σ' H' v u} J rv q => ⟨v, H', J.os, J.bare, J.base, J.hok, rv, q⟩
  cases fl with
  | ret u =>
    obtain ⟨v, σ', H', J, rv, q⟩ := hs
    exact fin J rv q
  | next =>
    obtain ⟨σ', H', J, q⟩ := hs
    exact fin (v := V.non) (u := Value.none) J rfl q
  | brk =>
    obtain ⟨_, _, _, q⟩ := hs
    exact False.elim q
  | cont =>
    obtain ⟨_, _, _, q⟩ := hs
    exact False.elim q
theorem Fn.okK (F : Fn K x st dvs f fd) (S : FnScope N ps (defScope st)) (len : ∀ vs H Q E, sp vs H Q E → vs.length = ps.length)
    (hbody : ∀ (cdv : Value) (A : Around) (outer : List Env) (s : Shared) (H : Hp) (vs : List V) (Q : VK) (E : XK), Room k (A.deeper (envOfC x (defScope st) s.heap.objs.size f cdv)) → sp vs H Q E →
      ∃ t, BK (cxOf CX0 P w K mg base N x (defScope st) f cdv A outer s H E).nox (defBody st) t ∧ t { nx := fun _ H' => Q .non H', rt := Q } (start N vs) H) : FnK P w K mg base CX0 (k + 1) f fd ps sp := by
  obtain ⟨oc, od, dV, kV, doc, pm, an, cdv, ct, osl, rfl, lk, hcd, _, _⟩ := F.ex
  refine ⟨len, fun A outer s H args us vs Q E hr e0 hb r hsp => ?_⟩
  have hl := len _ _ _ _ hsp
  have KX : K.In s.heap := e0.mod.kin.keeps fun b o e => (e0.bs b o e).1
  have lim : s.heap.NoLimit := e0.mod.nolimit.keeps fun b o e => (e0.bs b o e).1
  have hkind : ∀ y ∈ ps.zip us, (defScope st).names.lookup y.1 = some .local ∨ ((defScope st).names.lookup y.1 = some .cell ∧ ((cellsFrom (s.heap.objs.size + 1) (defScope st).names []).lookup y.1).isSome = true) := fun ⟨n, v⟩ hy => by
    rcases S.par n (List.of_mem_zip hy).1 with q | q
    · exact .inl q
    · exact .inr ⟨q, PySem.W.cellsFrom_some _ _ _ (.inl q)⟩
  refine codeAny_call_function hr.depth (KX _ _ lk) rfl S.co S.gen rfl (PySem.W.codeRec_of KX hcd) (hb _ _ _ _ ?_)
  refine wpAny_newFunctionEnv_cells S.kind hkind fun env he s1 xx => ?_
  subst he
  refine ⟨lim.keeps xx.toInCall.keep, codeAny_func ?_⟩
  obtain ⟨t, ht, hq⟩ := hbody cdv A outer s H vs Q E (hr.deeper _) hsp
  have I : Inv (cxOf CX0 P w K mg base N x (defScope st) f cdv A outer s H E) [] (start N vs) H s1 := inv_start S hr.hd e0 hl r xx
  refine wpAny_mono (ht.nox.run [] s1 (start N vs) H _ I hq) (fun fl s' hs => ?_) fun e s' hs => ?_
  · obtain ⟨kk, hs⟩ := hs
    have fin : ∀ {σ' : L2.St} {H' : Hp} {v : V} {u : Value}, Inv (cxOf CX0 P w K mg base N x (defScope st) f cdv A outer s H E) [] σ' H' s' → RelV v u → Q v H' → ((∃ e : Value, (Except.ok (Flow.ret u) : Result) = .error e) ∨ 1 ≤ s'.toks) ∧ CE outer P w H s Q u s' :=
      fun {σ' H' v u} J rv q => ⟨.inr kk, v, H', J.os, J.bare, J.base, J.hok, rv, q⟩
    cases fl with
    | ret u =>
      obtain ⟨v, σ', H', J, rv, q⟩ := hs
      exact fin J rv q
    | next =>
      obtain ⟨σ', H', J, q⟩ := hs
      have z := fin (v := V.non) (u := Value.none) J rfl q
      exact ⟨.inr kk, z.2⟩
    | brk =>
      obtain ⟨_, _, _, q⟩ := hs
      exact False.elim q
    | cont =>
      obtain ⟨_, _, _, q⟩ := hs
      exact False.elim q
  · exact wpAny_mono hs (fun _ _ z => ⟨.inl ⟨_, rfl⟩, z⟩) (fun _ _ z => ⟨.inl ⟨_, rfl⟩, z⟩)
end

/-! ### further rules: text.replace of written texts, get of a written dict, in a tuple of data -/
section
variable {X : Cx} {o e : Expr} {to te : TE}
def tRepl (y z : Str) (to : TE) : TE := fun σ H Q => to σ H fun x H1 => ∃ a : Str, x = .str a ∧ a.length + (a.length + 1) * z.length ≤ 16777216 ∧ Q (.str (Txt.replace a y z)) H1
theorem et_repl {y z : Str} {j0 j1 : Nat} {c0 c1 apos pos : Pos} (ho : ET X o to) (hyz : (y == z) = false) (hst : starEach [.Constant (.str y) j0 c0, .Constant (.str z) j1 c1] X.env = [(false, eval (.Constant (.str y) j0 c0) X.env), (false, eval (.Constant (.str z) j1 c1) X.env)] := by rfl)
    (hbase : attributeBase o "replace" X.env (eval o X.env) = eval o X.env := by rfl) (hline : (apos.endLine == pos.line) = true := by rfl) :
    ET X (.Call (.Attribute o "replace" apos) [.Constant (.str y) j0 c0, .Constant (.str z) j1 c1] [] pos) (tRepl y z to) := by
  refine ⟨fun pins s σ H Q hk I h => ?_⟩
  refine PySem.Call_method2 hbase hst hline (thnK hk (ho.run pins s σ H _ hk I h) fun v s1 k1 ⟨x, H1, I1, r1, a, ex, hb, q⟩ => ?_)
  subst ex
  obtain ⟨tx, rfl⟩ := r1
  refine ⟨"str", _, PySem.F.plainAttrs_str, PySem.F.slot_str_replace, PySem.F.type_str_replace, typeIs_str _ _ _, (fun _ e => nomatch e), Calls.callWith_builtin rfl (Calls.evalArgs_plain (Calls.spliced_cons (Calls.Constant_str (Calls.spliced_cons (Calls.Constant_str (Calls.spliced_nil ?_))))))⟩
  exact PySem.SC.replace (show s1.toks ≠ 0 by omega) (show s1.toks + 1 ≠ 0 by omega) (show s1.toks ≠ s1.toks + 1 by omega) hyz hb fun t' k => ⟨.str (Txt.replace a y z), H1, I1.tok k, ⟨t', rfl⟩, q⟩
/-- d.get(key) of a written dict with text keys -/
def tKGet (K : PySem.W.Frag) (d : Addr) (to te : TE) : TE := fun σ H Q => to σ H fun x H1 => x = .ref d ∧ te σ H1 fun y H2 => ∃ (z : Str) (r : Option Value) (v : V), y = .str z ∧ PySem.W.nsIn K d z = some r ∧ RelV v (r.getD .none) ∧ Q v H2
theorem pe_kget {d : Addr} {es : Array DictEntry} {n : Nat} {apos cpos : Pos} (D : KDict X.K X.w d es n) (ho : PE X o to) (he : PE X e te) (m : M1 X o "get" apos e cpos) : PE X (.Call (.Attribute o "get" apos) [e] [] cpos) (tKGet X.K d to te) := by
  refine ⟨fun pins s σ H Q I h => ?_⟩
  refine wpAny_Call_method m.base m.few m.line PySem.F.plainAttrs_dict PySem.F.slot_dict_get PySem.F.type_dict_get (thn (ho.run pins s σ H _ I h) fun u s1 ⟨x, H1, I1, rx, ex, q1⟩ => ?_)
  subst ex
  obtain rfl : u = Value.ref d := rx
  refine ⟨kd_type D I1, fun a ea => ?_, ?_⟩
  · cases ea
    exact ⟨_, I1.kIn _ _ D.at_, rfl⟩
  rw [m.trees]
  refine Calls.callWith_builtin rfl (Calls.evalArgs_plain (Calls.spliced_cons (thn (he.run pins s1 σ H1 _ I1 q1) fun iv s2 ⟨y, H2, I2, ry, z, r, v, ey, e, rv, q2⟩ => Calls.spliced_nil ?_)))
  subst ey
  obtain ⟨t, rfl⟩ := ry
  refine call_meetsIn PySem.F.slot_dict_get (kd_type D I2) PySem.F.entry_dict_get (PySem.F.args_dict_get_2 _ _) (meets_dict_get (PySem.strKind X.prog X.w) d (PySem.strKind_is X.prog X.w z t) D.low) ⟨_, PySem.W.mapOf_K (prog := X.prog) I2.kIn D.at_ D.lit, ?_⟩
  rw [PySem.W.find_K D.at_ e]
  exact ⟨v, H2, I2.tok _, rv, q2⟩
/-- x in (.., ..), the items data of any depth -/
def rInT (K : PySem.W.Frag) : R2 := fun x y H Q => ∃ d ds, Dp K H x d ∧ Dp K H y (.tuple ds) ∧ SeqAt.shaped d = true ∧ SeqAt.shaped (.tuple ds) = true ∧ d.depth ≤ 60 ∧ Q (.bl (ds.any fun z => PyData.eqv z d)) H
theorem op_inT (hu : X.A.units + 64 < cLine) : OpR X (compareOp .In) (rInT X.K) := by
  intro pins s σ H x y v u Q I rx ry h
  obtain ⟨d, ds, hd, he, sd, se, dl, q⟩ := h
  obtain ⟨as, r1⟩ := Dp.reads I d x v hd rx
  obtain ⟨bs, r2⟩ := Dp.reads I (.tuple ds) y u he ry
  exact SeqAt.in_tuple_reads r2 r1 (SeqAt.canLay_of_shaped se) (SeqAt.canLay_of_shaped sd) (by omega) ⟨.bl _, H, I, rfl, q⟩
end
section
variable {X : Cx} {a : Expr} {ta : TE}
def tTr (K' : PySem.W.Frag) (ta : TE) : TT := fun σ H Q => ta σ H fun x H1 => ∃ k, TruV K' x H1 k ∧ Q k H1
theorem pt_tr {K' : PySem.W.Frag} (ha : PE X a ta) (hK : X.K = K' := by rfl) (he : ∀ whole, isTrue a X.env whole = (do let v ← whole; standAt a.pos; holding [v] (truthy v)) := by intro _; rfl) : PT X a (tTr K' ta) := by
  subst hK
  exact pt_truth ha he
end

/-! ### a text times a number; pairs of texts -/
theorem op_repS {X : Cx} : OpR X (binaryOp .Mult) (fun x y H Q => ∃ (z : Str) (n : Int), x = .str z ∧ y = .int n ∧ MulOk z n ∧ Q (.str (Txt.mul z n)) H) := by
  intro pins s σ H x y v u Q I rx ry h
  obtain ⟨z, n, rfl, rfl, ok, q⟩ := h
  obtain ⟨t, rfl⟩ := rx
  obtain ⟨t', rfl⟩ := ry
  exact PySem.SB.mul ok fun t' k => ⟨.str (Txt.mul z n), H, I.tok _, ⟨_, rfl⟩, q⟩

/-! ### texts of lists of signs -/
def mk (l : List Nat) : Str := ⟨l.toArray⟩
theorem tl_mk' (l : List Nat) : tl (mk l) = l := rfl
theorem mk_tl' (x : Str) : mk (tl x) = x := ext_tl rfl
theorem mk_len (l : List Nat) : (mk l).length = l.length := by rw [len_tl]; rfl
theorem join_mk (y : List Nat) (ps : List (List Nat)) : Txt.join (mk y) (ps.map mk) = mk (joinL y ps) := by
  refine ext_tl ?_
  rw [join_eq, tl_join, List.map_map]
  show joinL y (ps.map (tl ∘ mk)) = joinL y ps
  have : (tl ∘ mk) = id := by
    funext l
    rfl
  rw [this, List.map_id]
theorem take_filter {α : Type} (p : α → Bool) {l : List α} {i : Nat} {a : α} (h : l[i]? = some a) : (l.take (i + 1)).filter p = (l.take i).filter p ++ (if p a then [a] else []) := by
  rw [List.take_add_one, h, List.filter_append]
  show _ ++ List.filter p [a] = _
  rw [List.filter_cons]
  rfl

/-! ### a text, sign by sign; texts joined -/
theorem for_str {x : Str} {g : TG} {tb : TS} {D : Ends} {σ : L2.St} {H : Hp} (Pv : Nat → L2.St → Hp → Prop) (h0 : Pv 0 σ H)
    (hs : ∀ i c σ H, (tl x)[i]? = some c → Pv i σ H → g (.str ⟨#[c]⟩) σ H fun σ2 H2 => tb { D with nx := Pv (i + 1), ct := Pv (i + 1), bk := D.nx } σ2 H2) (hd : ∀ σ H, Pv (tl x).length σ H → D.nx σ H) :
    ∃ W : Nat → Nat → L2.St → Hp → Prop, (∃ m, W 0 m σ H) ∧ ∀ i m σ H, W i m σ H →
      ((Its x).stop i H ∧ D.nx σ H) ∨ ((Its x).go i H ∧ ∃ N : L2.St → Hp → Prop, (∀ σ' H', N σ' H' → ∃ m', m' < m ∧ W (i + 1) m' σ' H') ∧ ∀ y H', (Its x).yld i H y H' → g y σ H' fun σ2 H2 => tb { D with nx := N, ct := N, bk := D.nx } σ2 H2) := by
  have sz : x.cps.size = (tl x).length := by simp [tl]
  refine ⟨fun i m σ H => m = (tl x).length - i ∧ i ≤ (tl x).length ∧ Pv i σ H, ⟨(tl x).length, by simp, Nat.zero_le _, h0⟩, ?_⟩
  rintro i m σ H ⟨rfl, hi, p⟩
  by_cases hlt : i < (tl x).length
  · refine .inr ⟨by show i < x.cps.size; omega, Pv (i + 1), fun σ' H' p' => ⟨(tl x).length - (i + 1), by omega, rfl, hlt, p'⟩, fun y H' z => ?_⟩
    obtain ⟨e, c, hc, ey⟩ := z
    subst e ey
    exact hs i c σ _ (by rw [← hc]; simp [tl]) p
  · have e : i = (tl x).length := by omega
    subst e
    exact .inl ⟨by show x.cps.size ≤ (tl x).length; omega, hd σ H p⟩
theorem len_join (y : Str) (m : Nat) : ∀ ws : List Str, (∀ w ∈ ws, w.length ≤ m) → (Txt.join y ws).length ≤ (m + y.length) * ws.length := by
  intro ws h
  rw [join_eq, len_tl, tl_join]
  have hy : y.length = (tl y).length := len_tl y
  induction ws with
  | nil => exact Nat.zero_le _
  | cons a r ih =>
    have ha : (tl a).length ≤ m := by
      rw [← len_tl]
      exact h a (List.mem_cons_self ..)
    have ihr := ih fun w hw => h w (List.mem_cons_of_mem _ hw)
    cases r with
    | nil =>
      show (tl a).length ≤ (m + y.length) * 1
      omega
    | cons b r =>
      show (tl a ++ (tl y ++ joinL (tl y) ((b :: r).map tl))).length ≤ _
      rw [List.length_append, List.length_append, List.length_cons (a := a), Nat.mul_succ]
      omega
theorem sum_len (m : Nat) : ∀ ws : List Str, (∀ w ∈ ws, w.length ≤ m) → (ws.map (·.length)).sum ≤ m * ws.length
  | [], _ => Nat.zero_le _
  | a :: r, h => by
    have ih := sum_len m r fun w hw => h w (List.mem_cons_of_mem _ hw)
    have ha := h a (List.mem_cons_self ..)
    rw [List.map_cons, List.sum_cons, List.length_cons, Nat.mul_succ]
    omega

/-! ### the source of draws -/
/-- a source of draws stands at D: its two lists at A and B, so many draws made -/
structure Drw (H : Hp) (D A B : Addr) (n : Int) : Prop where
  ex : ∃ (as bs : List Int) (c : Int), H D = some (.lst [.ref A, .int c, .ref B, .int n]) ∧ H A = some (.lst (as.map V.int)) ∧ H B = some (.lst (bs.map V.int))
  ab : A ≠ B
  pos : 0 ≤ n
/-- all but what a draw may change stands as it stood -/
def Kept (D A : Addr) (H H' : Hp) : Prop := ∀ b o, H b = some o → b ≠ D → b ≠ A → H' b = some o
theorem Kept.refl {D A : Addr} {H : Hp} : Kept D A H H := fun _ _ e _ _ => e
theorem Kept.trans {D A : Addr} {H H' H'' : Hp} (h : Kept D A H H') (k : Kept D A H' H'') : Kept D A H H'' := fun b o e n m => k b o (h b o e n m) n m
theorem Kept.of {D A : Addr} {H H' : Hp} (h : Same H H') : Kept D A H H' := fun b o e _ _ => h b o e
theorem Kept.upd {D A p : Addr} {o : HO} {H H' : Hp} (h : Kept D A H H') (hp : H p = none) : Kept D A H (L2.upd H' p o) := fun b x e n m => by
  rw [upd_ne (ne_of_none e hp)]
  exact h b x e n m
theorem Drw.same {H H' : Hp} {D A B : Addr} {n : Int} (h : Drw H D A B n) (k : Same H H') : Drw H' D A B n := by
  obtain ⟨⟨as, bs, c, h1, h2, h3⟩, h4, h5⟩ := h
  exact ⟨⟨as, bs, c, k _ _ h1, k _ _ h2, k _ _ h3⟩, h4, h5⟩
theorem Drw.tracked {H : Hp} {D A B : Addr} {n : Int} (h : Drw H D A B n) : (∃ o, H D = some o) ∧ (∃ o, H A = some o) ∧ ∃ o, H B = some o := by
  obtain ⟨⟨as, bs, c, h1, h2, h3⟩, h4, h5⟩ := h
  exact ⟨⟨_, h1⟩, ⟨_, h2⟩, ⟨_, h3⟩⟩
/-- a change at a third place -/
theorem Drw.upd {H : Hp} {D A B p : Addr} {o : HO} {n : Int} (h : Drw H D A B n) (hD : p ≠ D) (hA : p ≠ A) (hB : p ≠ B) : Drw (L2.upd H p o) D A B n := by
  obtain ⟨⟨as, bs, c, h1, h2, h3⟩, h4, h5⟩ := h
  exact ⟨⟨as, bs, c, by rw [upd_ne (Ne.symm hD)]; exact h1, by rw [upd_ne (Ne.symm hA)]; exact h2, by rw [upd_ne (Ne.symm hB)]; exact h3⟩, h4, h5⟩
theorem Drw.new {H : Hp} {D A B p : Addr} {o : HO} {n : Int} (h : Drw H D A B n) (hp : H p = none) : Drw (L2.upd H p o) D A B n := h.same (same_new hp)

theorem canLay_ints (ns : List Int) : PyData.canLayAll0 (ns.map PyData.int) = true := by
  induction ns with
  | nil => rfl
  | cons x r ih => simpa [PyData.canLayAll0, PyData.canLay0] using ih
theorem depth_ints (ns : List Int) : PyData.depthAll (ns.map PyData.int) ≤ 1 := by
  induction ns with
  | nil => simp [PyData.depthAll]
  | cons x r ih => simp [PyData.depthAll, PyData.depth]; omega
theorem shaped_ints (ns : List Int) : SeqAt.shaped (.list (ns.map PyData.int)) = true := by
  have h1 := canLay_ints ns
  have h2 := depth_ints ns
  simp [SeqAt.shaped, PyData.canLay0, PyData.depth, h1]
  omega
theorem dp_ints {K : PySem.W.Frag} {H : Hp} : ∀ (ns : List Int), DpAll K H (ns.map V.int) (ns.map PyData.int)
  | [] => .nil
  | x :: r => .cons (.int x) (dp_ints r)
theorem eqv_nil (ns : List Int) : PyData.eqv (.list (ns.map PyData.int)) (.list []) = ns.isEmpty := by
  cases ns <;> simp [PyData.eqv, PyData.eqvAll]

section
variable {P : Program} {w : World} {K : PySem.W.Frag} {mg : Str → Option Value} {base : Heap}
/-! ### _law_mixed -/
def sp_law_mixed : Sp := fun vs H Q _ => ∃ (s k : Int), vs = [.int s, .int k] ∧ 0 ≤ k ∧ k < 4194304 ∧ ∀ r, Q (.int r) H
theorem ok_law_mixed {f : Addr} {fd : FuncData} {dvs : List V} (F : Fn K "_law_mixed" s_law_mixed dvs f fd) : FnOk P w K mg base CX0 1 f fd ["seed", "k"] (sp_law_mixed) := by
  refine Fn.okN F sc_law_mixed (fun vs H Q E h => ?_) (fun cdv A outer s H vs Q E hr h => ?_)
  · obtain ⟨_, _, rfl, _⟩ := h
    rfl
  · obtain ⟨x, y, rfl, y0, y1, k⟩ := h
    refine ⟨_, (pss_cons (ps_set (i := 2) sc_law_mixed.nd rfl (.inl rfl) (pe_op op_mod (pe_op op_pow (pe_op op_add (pe_op op_add (pe_op op_mod (pv 0) pe_int) (pe_op op_mul pe_int (pv 1))) pe_int) pe_int) pe_int))
      (pss_one (ps_ret (pe_op op_mod (pe_op op_pow (pe_op op_add (pe_op op_add (pe_op op_mul (pv 2) pe_int) (pe_op op_mul (pe_op op_mul pe_int (pv 1)) (pv 1))) pe_int) pe_int) pe_int)))), ?_⟩
    have e1 : 0 ≤ x % 2147483647 := Int.emod_nonneg _ (by decide)
    have e2 : x % 2147483647 < 2147483647 := Int.emod_lt_of_pos _ (by decide)
    refine ⟨_, rfl, _, _, rfl, rfl, (by show (0 : Int) < 2147483647; decide), _, rfl, _, _, rfl, rfl, .inl ⟨by decide, by decide⟩, _, _, rfl, rfl, _, _, rfl, rfl, _, _, rfl, rfl, ⟨by decide, by decide, ?_⟩, _, _, rfl, rfl, (by show (0 : Int) < 2147483629; decide), ?_⟩
    · generalize x % 2147483647 = m at e1 e2
      omega
    have g1 : ∀ z : Int, 0 ≤ z % 2147483629 := fun z => Int.emod_nonneg _ (by decide)
    have g2 : ∀ z : Int, z % 2147483629 < 2147483629 := fun z => Int.emod_lt_of_pos _ (by decide)
    generalize hz : ((x % 2147483647 + 7919 * y + 104729) ^ (5 : Int).toNat) = z
    have z1 := g1 z
    have z2 := g2 z
    generalize z % 2147483629 = u at z1 z2
    have yy : 40503 * y * y ≤ 40503 * 4194304 * 4194304 := Int.mul_le_mul (by omega) (by omega) y0 (by decide)
    have yy0 : 0 ≤ 40503 * y * y := Int.mul_nonneg (by omega) y0
    refine ⟨_, rfl, _, _, rfl, rfl, .inl ⟨by omega, by omega⟩, _, rfl, _, _, rfl, rfl, .inl ⟨by decide, by decide⟩, _, rfl, _, _, rfl, rfl, .inl ⟨by omega, by omega⟩, _, _, rfl, rfl, _, _, rfl, rfl, _, _, rfl, rfl, ⟨by decide, by decide, ?_⟩, _, _, rfl, rfl, (by show (0 : Int) < 1000000007; decide), ?_⟩
    · generalize 40503 * y * y = q at yy yy0
      omega
    · exact k _
/-! ### _law_draws -/
def sp_law_draws (K : PySem.W.Frag) : Sp := fun vs H Q _ => ∃ (a : Addr) (ns : List Int), vs = [.ref a] ∧ SqL K H a (ns.map V.int) ∧ ns.length ≤ 63 ∧
  ∀ (H' : Hp) (D A B : Addr), Same H H' → Drw H' D A B 0 → H D = none → H A = none → Q (.ref D) H'
theorem ok_law_draws {f : Addr} {fd : FuncData} {dvs : List V} (F : Fn K "_law_draws" s_law_draws dvs f fd) : FnOk P w K mg base CX0 1 f fd ["script"] (sp_law_draws K) := by
  refine Fn.okN F sc_law_draws (fun vs H Q E h => ?_) (fun cdv A outer s H vs Q E hr h => ?_)
  · obtain ⟨_, _, rfl, _⟩ := h
    rfl
  · obtain ⟨a, ns, rfl, hS, hl, k⟩ := h
    refine ⟨_, (pss_one (ps_ret (pe_lst (pa_cons (pe_lc (own := [("item", 1)]) (g := gName 1) (by rfl) sc_law_draws.nd (pi_list (pv 0)) (blkOk_by (own := [("item", 1)]) (N := ["script", "item"]) (sc := defScope s_law_draws) (by decide +kernel)) (fun _ _ _ _ _ => (pg_name (i := 1) sc_law_draws.nd rfl (.inl rfl))) (fun _ _ _ _ _ => (pts_one (pt_cmpR op_ge (pv 1) (pe_op op_pow pe_int pe_int) (nomark _)))) (fun _ _ _ _ _ => (pv 1))) (pa_cons pe_int (pa_cons (pe_lc (own := [("item", 1)]) (g := gName 1) (by rfl) sc_law_draws.nd (pi_list (pv 0)) (blkOk_by (own := [("item", 1)]) (N := ["script", "item"]) (sc := defScope s_law_draws) (by decide +kernel)) (fun _ _ _ _ _ => (pg_name (i := 1) sc_law_draws.nd rfl (.inl rfl))) (fun _ _ _ _ _ => (pts_one (pt_cmpR op_lt (pv 1) (pe_op op_pow pe_int pe_int) (nomark _)))) (fun _ _ _ _ _ => (pv 1))) (pa_cons pe_int pa_nil))))))), ?_⟩
    refine ⟨_, rfl, a, rfl, ⟨_, hS⟩, fun A1 nA => lc_list (K := K) (a := a) (xs := ns.map V.int) (fun i H2 => ∃ acc : List Int, acc.length ≤ i ∧ H2 A1 = some (.lst (acc.map V.int)) ∧ Same H H2)
      ⟨[], Nat.le_refl _, upd_same, same_new nA⟩ (fun i H2 _ h2 => by obtain ⟨_, _, _, s2⟩ := h2; exact s2.seq hS) ?_ ?_⟩
    · rintro i x H2 hi ⟨acc, l2, e2, s2⟩
      obtain ⟨z, rfl⟩ := int_at hi
      have hil : i < (ns.map V.int).length := (List.getElem?_eq_some_iff.mp hi).1
      rw [List.length_map] at hil
      refine ⟨rfl, _, rfl, _, _, rfl, rfl, ⟨by decide, by decide, by decide⟩, _, _, rfl, rfl, _, rfl, ite2 (fun _ => ?_) (fun _ => ?_)⟩
      · refine ⟨_, rfl, _, e2, by rw [List.length_map]; exact small1000 (by omega), acc ++ [z], by rw [List.length_append]; exact Nat.succ_le_succ l2, ?_, fun b o e => ?_⟩
        · rw [upd_same, List.map_append]
          rfl
        · rw [upd_ne (ne_of_none e nA)]
          exact s2 b o e
      · exact ⟨acc, by omega, e2, s2⟩
    · rintro H2 ⟨as, l2, e2, s2⟩
      refine ⟨_, rfl, a, rfl, ⟨_, s2.seq hS⟩, fun B1 nB => lc_list (K := K) (a := a) (xs := ns.map V.int) (fun i H3 => ∃ acc : List Int, acc.length ≤ i ∧ H3 B1 = some (.lst (acc.map V.int)) ∧ Same H2 H3)
        ⟨[], Nat.le_refl _, upd_same, same_new nB⟩ (fun i H3 _ h3 => by obtain ⟨_, _, _, s3⟩ := h3; exact (s2.trans s3).seq hS) ?_ ?_⟩
      · rintro i x H3 hi ⟨acc, l3, e3, s3⟩
        obtain ⟨z, rfl⟩ := int_at hi
        have hil : i < (ns.map V.int).length := (List.getElem?_eq_some_iff.mp hi).1
        rw [List.length_map] at hil
        refine ⟨rfl, _, rfl, _, _, rfl, rfl, ⟨by decide, by decide, by decide⟩, _, _, rfl, rfl, _, rfl, ite2 (fun _ => ?_) (fun _ => ?_)⟩
        · refine ⟨_, rfl, _, e3, by rw [List.length_map]; exact small1000 (by omega), acc ++ [z], by rw [List.length_append]; exact Nat.succ_le_succ l3, ?_, fun b o e => ?_⟩
          · rw [upd_same, List.map_append]
            rfl
          · rw [upd_ne (ne_of_none e nB)]
            exact s3 b o e
        · exact ⟨acc, by omega, e3, s3⟩
      · rintro H3 ⟨bs, l3, e3, s3⟩
        have eA := s3 _ _ e2
        have nAB : A1 ≠ B1 := ne_of_none e2 nB
        refine ⟨by show 4 ≤ sizeLine; decide, fun D1 nD => ?_⟩
        have s4 := same_new (o := .lst [.ref A1, .int 0, .ref B1, .int 0]) nD
        refine k _ D1 A1 B1 (s2.trans (s3.trans s4)) ⟨⟨as, bs, 0, upd_same, s4 _ _ eA, s4 _ _ e3⟩, nAB, Int.le_refl _⟩ ((s2.trans s3).free nD) nA
/-! ### _law_take -/
def sp_law_take : Sp := fun vs H Q _ => ∃ (D A B : Addr) (n size : Int), vs = [.ref D, .int size] ∧ Drw H D A B n ∧ n < 1000000 ∧ 1 ≤ size ∧ size < 1073741824 ∧
  ∀ (r : Int) (H' : Hp), 0 ≤ r → r < size → Drw H' D A B (n + 1) → Kept D A H H' → Q (.int r) H'
/-- within a draw -/
structure Mids (H : Hp) (D A B : Addr) (m : Int) (H1 : Hp) : Prop where
  ex : ∃ (as bs : List Int) (c : Int), H1 D = some (.lst [.ref A, .int c, .ref B, .int m]) ∧ H1 A = some (.lst (as.map V.int)) ∧ H1 B = some (.lst (bs.map V.int))
  kp : Kept D A H H1
theorem ok_law_take {f : Addr} {fd : FuncData} {dvs : List V} (F : Fn K "_law_take" s_law_take dvs f fd) (O_law_mixed : Own P w K mg base "_law_mixed" 1 ["seed", "k"] [] (sp_law_mixed)) (m_len : mg "len" = none) : FnOk P w K mg base CX0 2 f fd ["draws", "size"] (sp_law_take) := by
  refine Fn.okN F sc_law_take (fun vs H Q E h => ?_) (fun cdv A outer s H vs Q E hr h => ?_)
  · obtain ⟨_, _, _, _, _, rfl, _⟩ := h
    rfl
  · obtain ⟨D, A1, B, n, size, rfl, ⟨⟨as, bs, c, hD, hA, hB⟩, nAB, n0⟩, hn, z0, z1, k⟩ := h
    refine ⟨_, (pss_cons (ps_asg (pe_op op_add (pe_ix ix_list (pv 0) pe_int (fun _ _ => rfl)) pe_int) (pg_sub (pv 0) pe_int set_list))
      (pss_cut (ps_if (PW.pt (pw_and (pt_cmpR op_eq (pe_ix ix_list (pv 0) pe_int (fun _ _ => rfl)) pe_int (nomark _)) (pw_and1 (pt_cmpR (op_neD hr.units) (pe_ix ix_list (pv 0) pe_int (fun _ _ => rfl)) (pe_lst pa_nil) (nomark _)))))
          (pss_one (ps_asg (pe_bm PySem.F.plainAttrs_list PySem.F.slot_list_pop PySem.F.type_list_pop mt_popAt (pe_ix ix_list (pv 0) pe_int (fun _ _ => rfl)) (pa_cons pe_int pa_nil)) (pg_sub (pv 0) pe_int set_list)))
          pss_nil)
      (pss_cons (ps_if (pt_cmpR op_gt (pe_ix ix_list (pv 0) pe_int (fun _ _ => rfl)) pe_int (nomark _))
          (pss_cons (ps_set (i := 2) sc_law_take.nd rfl (.inl rfl) (pe_op op_mod (pe_ix ix_list (pv 0) pe_int (fun _ _ => rfl)) (pv 1)))
            (pss_cons (ps_asg (pe_op op_fdivN (pe_ix ix_list (pv 0) pe_int (fun _ _ => rfl)) (pv 1)) (pg_sub (pv 0) pe_int set_list))
            (pss_one (ps_ret (pv 2)))))
          pss_nil)
      (pss_cons (ps_set (i := 3) sc_law_take.nd rfl (.inl rfl) pe_int)
      (pss_cut (ps_if (pt_cmpR (op_neD hr.units) (pe_ix ix_list (pv 0) pe_int (fun _ _ => rfl)) (pe_lst pa_nil) (nomark _))
          (pss_one (ps_set (i := 3) sc_law_take.nd rfl (.inl rfl) (pe_ix ix_list (pe_ix ix_list (pv 0) pe_int (fun _ _ => rfl)) (pe_op op_mod (pe_ix ix_list (pv 0) pe_int (fun _ _ => rfl)) (pe_callB call_len_seq (by rfl) m_len PySem.boot_len (pa_cons (pe_ix ix_list (pv 0) pe_int (fun _ _ => rfl)) pa_nil))) (fun _ _ => rfl))))
          pss_nil)
      (pss_cons (ps_set (i := 2) sc_law_take.nd rfl (.inl rfl) pe_int)
      (pss_cons (ps_set (i := 4) sc_law_take.nd rfl (.inl rfl) pe_int)
      (pss_cons (ps_while PassesOwn.never (pt_cmpR op_lt (pv 4) (pv 1) (nomark _))
          (pss_cons (ps_set (i := 2) sc_law_take.nd rfl (.inl rfl) (pe_op op_add (pe_op op_mul (pv 2) pe_int) (pe_own O_law_mixed (hr.mono (by decide)) (by rfl) (pa_cons (pv 3) (pa_cons (pe_op op_add (pe_ix ix_list (pv 0) pe_int (fun _ _ => rfl)) (pe_op op_mul pe_int (pe_op op_mod (pv 2) pe_int))) pa_nil)))))
            (pss_one (ps_set (i := 4) sc_law_take.nd rfl (.inl rfl) (pe_op op_mul (pv 4) pe_int)))))
      (pss_one (ps_ret (pe_op op_mod (pv 2) (pv 1)))))))))))), ?_⟩
    have nDA : D ≠ A1 := fun e => by
      rw [e, hA] at hD
      cases as <;> cases hD
    have nDB : D ≠ B := fun e => by
      rw [e, hB] at hD
      cases bs <;> cases hD
    -- one more draw
    refine ⟨.ref D, rfl, D, _, 3, .int n, rfl, rfl, SqL.of hD, atI_nat (j := 3) rfl, n, 1, rfl, rfl, .ref D, rfl, D, _, 3, 3, rfl, rfl, hD, rfl, ?_⟩
    have hD1 : (upd H D (.lst ([V.ref A1, .int c, .ref B, .int n].set 3 (.int (n + 1))))) D = some (.lst [V.ref A1, .int c, .ref B, .int (n + 1)]) := upd_same
    have hA1 : (upd H D (.lst ([V.ref A1, .int c, .ref B, .int n].set 3 (.int (n + 1))))) A1 = some (.lst (as.map V.int)) := by rw [upd_ne nDA.symm]; exact hA
    have hB1 : (upd H D (.lst ([V.ref A1, .int c, .ref B, .int n].set 3 (.int (n + 1))))) B = some (.lst (bs.map V.int)) := by rw [upd_ne nDB.symm]; exact hB
    have k1 : Kept D A1 H (upd H D (.lst ([V.ref A1, .int c, .ref B, .int n].set 3 (.int (n + 1))))) := fun b o e n1 _ => by rw [upd_ne n1]; exact e
    generalize upd H D (.lst ([V.ref A1, .int c, .ref B, .int n].set 3 (.int (n + 1)))) = H1 at hD1 hA1 hB1 k1
    clear hD hA hB
    -- the next of the great cells
    refine ⟨fun σ H2 => σ = [some (.ref D), some (.int size), none, none, none] ∧ Mids H D A1 B (n + 1) H2, ?_, ?_⟩
    · refine ⟨.ref D, rfl, D, _, 1, .int c, rfl, rfl, SqL.of hD1, atI_nat (j := 1) rfl, rfl, _, rfl, ?_⟩
      refine ite2 (fun _ => ?_) (fun _ => ?_)
      · refine ⟨.ref D, rfl, D, _, 0, .ref A1, rfl, rfl, SqL.of hD1, atI_nat (j := 0) rfl, by decide, fun N1 nN => ?_⟩
        have s2 := same_new (o := .lst []) nN
        refine ⟨_, _, .lst (SqL.of (s2 _ _ hA1)) (dp_ints as), .lst (SqL.of upd_same) .nil, shaped_ints as, shaped_ints [], _, rfl, ?_⟩
        rw [eqv_nil]
        cases as with
        | nil => exact iteF ⟨rfl, ⟨[], bs, c, s2 _ _ hD1, s2 _ _ hA1, s2 _ _ hB1⟩, fun b o e n1 n2 => s2 _ _ (k1 b o e n1 n2)⟩
        | cons a r =>
          refine iteT ?_
          refine ⟨.ref D, rfl, D, _, 0, .ref A1, rfl, rfl, SqL.of (s2 _ _ hD1), atI_nat (j := 0) rfl, .inl ⟨rfl, _, SqL.of (s2 _ _ hA1)⟩, A1, _, 0, 0, .int a, rfl, rfl, s2 _ _ hA1, by decide, by decide, ?_, rfl, ?_⟩
          · refine (ixN_seq (j := 0) ?_).1
            unfold ixN
            rw [if_pos (by decide), if_pos (by rw [List.length_map, List.length_cons]; omega)]
            rfl
          · refine ⟨.ref D, rfl, D, _, 1, 1, rfl, rfl, by rw [upd_ne nDA]; exact s2 _ _ hD1, rfl, rfl, ⟨r, bs, a, upd_same, ?_, ?_⟩, fun b o e n1 n2 => ?_⟩
            · rw [upd_ne nDA.symm, upd_same]
              rfl
            · rw [upd_ne nDB.symm, upd_ne nAB.symm]
              exact s2 _ _ hB1
            · rw [upd_ne n1, upd_ne n2]
              exact s2 _ _ (k1 b o e n1 n2)
      · exact ⟨rfl, ⟨as, bs, c, hD1, hA1, hB1⟩, k1⟩
    rintro σ2 H2 ⟨rfl, ⟨as2, bs2, c2, hD2, hA2, hB2⟩, k2⟩
    clear hD1 hA1 hB1 k1
    -- digits of a great cell
    refine ⟨.ref D, rfl, D, _, 1, .int c2, rfl, rfl, SqL.of hD2, atI_nat (j := 1) rfl, _, _, rfl, rfl, _, rfl, ite2 (fun _ => ?_) (fun _ => ?_)⟩
    · refine ⟨.ref D, rfl, D, _, 1, .int c2, rfl, rfl, SqL.of hD2, atI_nat (j := 1) rfl, _, rfl, _, _, rfl, rfl, (by show (0 : Int) < size; omega), ?_⟩
      refine ⟨.ref D, rfl, D, _, 1, .int c2, rfl, rfl, SqL.of hD2, atI_nat (j := 1) rfl, _, rfl, c2, size, rfl, rfl, ⟨by omega, by omega⟩, .ref D, rfl, D, _, 1, 1, rfl, rfl, hD2, rfl, ?_⟩
      refine ⟨_, rfl, ?_⟩
      refine k _ _ (Int.emod_nonneg _ (by omega)) (Int.emod_lt_of_pos _ (by omega)) ⟨⟨as2, bs2, c2.fdiv size, upd_same, ?_, ?_⟩, nAB, by omega⟩ (fun b o e n1 n2 => ?_)
      · rw [upd_ne nDA.symm]
        exact hA2
      · rw [upd_ne nDB.symm]
        exact hB2
      · rw [upd_ne n1]
        exact k2 b o e n1 n2
    -- a seed
    refine ⟨fun σ H3 => ∃ sd : Int, σ = [some (.ref D), some (.int size), none, some (.int sd), none] ∧ Mids H D A1 B (n + 1) H3, ?_, ?_⟩
    · refine ⟨.ref D, rfl, D, _, 2, .ref B, rfl, rfl, SqL.of hD2, atI_nat (j := 2) rfl, by decide, fun N1 nN => ?_⟩
      have s3 := same_new (o := .lst []) nN
      refine ⟨_, _, .lst (SqL.of (s3 _ _ hB2)) (dp_ints bs2), .lst (SqL.of upd_same) .nil, shaped_ints bs2, shaped_ints [], _, rfl, ?_⟩
      rw [eqv_nil]
      have M3 : Mids H D A1 B (n + 1) (upd H2 N1 (.lst [])) := ⟨⟨as2, bs2, c2, s3 _ _ hD2, s3 _ _ hA2, s3 _ _ hB2⟩, fun b o e n1 n2 => s3 _ _ (k2 b o e n1 n2)⟩
      cases bs2 with
      | nil => exact iteF ⟨17, rfl, M3⟩
      | cons b r =>
        refine iteT ?_
        have hp : (0 : Int) < (((b :: r).map V.int).length : Int) := by
          rw [List.length_map, List.length_cons]
          omega
        have m0 := Int.emod_nonneg (n + 1) (show (((b :: r).map V.int).length : Int) ≠ 0 by omega)
        have m1 := Int.emod_lt_of_pos (n + 1) hp
        obtain ⟨j, hj⟩ : ∃ j : Nat, (n + 1) % (((b :: r).map V.int).length : Int) = (j : Int) := ⟨_, (Int.toNat_of_nonneg m0).symm⟩
        have jl : j < (b :: r).length := by
          rw [hj, List.length_map] at m1
          omega
        refine ⟨.ref D, rfl, D, _, 2, .ref B, rfl, rfl, SqL.of (s3 _ _ hD2), atI_nat (j := 2) rfl, .ref D, rfl, D, _, 3, .int (n + 1), rfl, rfl, SqL.of (s3 _ _ hD2), atI_nat (j := 3) rfl, .ref D, rfl, D, _, 2, .ref B, rfl, rfl, SqL.of (s3 _ _ hD2), atI_nat (j := 2) rfl, B, _, rfl, .inl (SqL.of (s3 _ _ hB2)), _, _, rfl, rfl, hp, ?_⟩
        refine ⟨B, _, _, .int ((b :: r)[j]'jl), rfl, rfl, SqL.of (s3 _ _ hB2), ?_, ⟨_, rfl, M3⟩⟩
        rw [hj]
        refine atI_nat ?_
        rw [List.getElem?_map, List.getElem?_eq_getElem jl]
        rfl
    rintro σ3 H3 ⟨sd, rfl, M3⟩
    obtain ⟨⟨as3, bs3, c3, hD3, hA3, hB3⟩, k3⟩ := id M3
    -- the loop
    refine while_by (fun σ H4 => ∃ fd rc : Int, σ = [some (.ref D), some (.int size), some (.int fd), some (.int sd), some (.int rc)] ∧ H4 = H3 ∧ 1 ≤ rc) (fun σ _ => match σ with | [_, _, _, _, some (.int rc)] => (size - rc).toNat | _ => 0) ⟨0, 1, rfl, rfl, by decide⟩ ?_ ?_
    · rintro σ H4 ⟨fd, rc, rfl, rfl, r1⟩
      refine ⟨_, rfl, _, rfl, _, _, rfl, rfl, _, rfl, ite2 (fun lt => ?_) (fun _ => ?_)⟩
      · have lt' : rc < size := of_decide_eq_true lt
        have q0 : 0 ≤ fd % 97 := Int.emod_nonneg _ (by decide)
        have q1 : fd % 97 < 97 := Int.emod_lt_of_pos _ (by decide)
        refine ⟨_, rfl, _, _, rfl, rfl, .inr ⟨by decide, by decide⟩, _, rfl, .ref D, rfl, D, _, 3, .int (n + 1), rfl, rfl, SqL.of hD3, atI_nat (j := 3) rfl, _, rfl, _, _, rfl, rfl, (by show (0 : Int) < 97; decide), _, _, rfl, rfl, .inl ⟨by decide, by decide⟩, _, _, rfl, rfl, _, _, rfl, ?_, ?_, fun r => ?_⟩
        · generalize fd % 97 = q at q0 q1
          omega
        · generalize fd % 97 = q at q0 q1
          omega
        · refine ⟨_, _, rfl, rfl, _, rfl, _, _, rfl, rfl, .inr ⟨by decide, by decide⟩, ⟨_, _, rfl, rfl, by omega⟩, ?_⟩
          show (size - rc * 1000000007).toNat < (size - rc).toNat
          omega
      · refine ⟨_, rfl, _, rfl, _, _, rfl, rfl, (by show (0 : Int) < size; omega), ?_⟩
        exact k _ _ (Int.emod_nonneg _ (by omega)) (Int.emod_lt_of_pos _ (by omega)) ⟨⟨as3, bs3, c3, hD3, hA3, hB3⟩, nAB, by omega⟩ k3
    · rintro σ H4 Q1 Q2 i ⟨v, e1, w, e2, i1, j1, e3, e4, b, e5, q⟩
      exact ⟨v, e1, w, e2, i1, j1, e3, e4, b, e5, i _ _ q⟩

/-! ### _law_pick, of texts too -/
/-- a list or a tuple that no draw touches -/
def SeqO (H : Hp) (p : Addr) (xs : List V) : Prop := H p = some (.lst xs) ∨ H p = some (.tup xs)
theorem SeqO.same {H H' : Hp} {p : Addr} {xs : List V} (h : SeqO H p xs) (k : Same H H') : SeqO H' p xs := h.elim (fun e => .inl (k _ _ e)) (fun e => .inr (k _ _ e))
theorem SeqO.kept {H H' : Hp} {p D A : Addr} {xs : List V} (h : SeqO H p xs) (k : Kept D A H H') (n1 : p ≠ D) (n2 : p ≠ A) : SeqO H' p xs := h.elim (fun e => .inl (k _ _ e n1 n2)) (fun e => .inr (k _ _ e n1 n2))
/-- what is picked from -/
def Th (H : Hp) (D A : Addr) (th : V) (xs : List V) : Prop := (∃ p, th = .ref p ∧ SeqO H p xs ∧ p ≠ D ∧ p ≠ A) ∨ ∃ z : Str, th = .str z ∧ z.length ≤ 10000 ∧ xs = (tl z).map fun c => V.str ⟨#[c]⟩
def sp_law_pick : Sp := fun vs H Q _ => ∃ (D A B : Addr) (th : V) (n : Int) (xs : List V), vs = [.ref D, th] ∧ Drw H D A B n ∧ n < 1000000 ∧ Th H D A th xs ∧ 1 ≤ xs.length ∧ xs.length < 1000000 ∧
  ∀ (i : Nat) (v : V) (H' : Hp), xs[i]? = some v → Drw H' D A B (n + 1) → Kept D A H H' → Q v H'
theorem ok_law_pick {f : Addr} {fd : FuncData} {dvs : List V} (F : Fn K "_law_pick" s_law_pick dvs f fd) (O_law_take : Own P w K mg base "_law_take" 2 ["draws", "size"] [] (sp_law_take)) (m_len : mg "len" = none) : FnOk P w K mg base CX0 3 f fd ["draws", "things"] (sp_law_pick) := by
  refine Fn.okN F sc_law_pick (fun vs H Q E h => ?_) (fun cdv A outer s H vs Q E hr h => ?_)
  · obtain ⟨_, _, _, _, _, _, rfl, _⟩ := h
    rfl
  · obtain ⟨D, A1, B, th, n, xs, rfl, dr, hn, hp, l0, l1, k⟩ := h
    refine ⟨_, (pss_one (ps_ret (pe_ix ix_seq (pv 1) (pe_own O_law_take (hr.mono (by decide)) (by rfl) (pa_cons (pv 0) (pa_cons (pe_callB (call_len_seq.or call_len_str) (by rfl) m_len PySem.boot_len (pa_cons (pv 1) pa_nil)) pa_nil))) (fun _ _ => rfl)))), ?_⟩
    rcases hp with ⟨p, rfl, hp, pD, pA⟩ | ⟨z, rfl, hz, rfl⟩
    · refine ⟨.ref p, rfl, .ref D, rfl, .ref p, rfl, .inl ⟨p, xs, rfl, hp.elim (fun e => .inl (SqL.of e)) (fun e => .inr (SqT.of e)), D, A1, B, n, (xs.length : Int), rfl, dr, hn, by omega, by omega, fun r H' r0 r1 dr' kp => ?_⟩⟩
      obtain ⟨j, rfl⟩ : ∃ j : Nat, r = (j : Int) := ⟨_, (Int.toNat_of_nonneg r0).symm⟩
      have jl : j < xs.length := by omega
      have g : xs[j]? = some xs[j] := List.getElem?_eq_getElem jl
      rcases hp.kept kp pD pA with e | e
      · exact .inl ⟨p, xs, (j : Int), xs[j], rfl, rfl, SqL.of e, atI_nat g, k j _ _ g dr' kp⟩
      · exact .inr (.inl ⟨p, xs, (j : Int), xs[j], rfl, rfl, SqT.of e, atI_nat g, k j _ _ g dr' kp⟩)
    · have lz : (tl z).length = z.length := (len_tl z).symm
      rw [List.length_map, lz] at l0 l1
      refine ⟨.str z, rfl, .ref D, rfl, .str z, rfl, .inr ⟨z, rfl, line_of (by omega), D, A1, B, n, (z.length : Int), rfl, dr, hn, by omega, by omega, fun r H' r0 r1 dr' kp => ?_⟩⟩
      obtain ⟨j, rfl⟩ : ∃ j : Nat, r = (j : Int) := ⟨_, (Int.toNat_of_nonneg r0).symm⟩
      have jl : j < (tl z).length := by omega
      have g : (tl z)[j]? = some (tl z)[j] := List.getElem?_eq_getElem jl
      exact .inr (.inr ⟨z, (j : Int), (tl z)[j], rfl, rfl, line_of (by omega), atI_nat g, k j _ _ (by rw [List.getElem?_map, g]; rfl) dr' kp⟩)
end

/-! ### the mathematics of the stages, over lists of signs -/
/-- nothing but blanks -/
def isBlank (l : List Nat) : Bool := l.all fun c => c == 32 || c == 9
def MK : List Nat := [60, 66, 76, 65, 78, 75, 76, 73, 78, 69, 62]
def isMark (l : List Nat) : Bool := pre MK l && isBlank (l.drop 11)
def marksOf (w : List Nat) : List Nat := joinL [10] ((spl [10] 0 [] w).map fun l => if isMark l then [] else l)
def blanksOf (g : List Nat) : List Nat := joinL [10] ((spl [10] 0 [] g).map fun l => if isBlank l then [] else l)
def wordsOf (t : List Nat) : List Nat := joinL [32] ((spl [32] 0 [] (t.map fun c => if c == 9 || c == 10 then 32 else c)).filter fun w => !w.isEmpty)
theorem emptyEq (l : List Nat) : l.isEmpty = (l.length == 0) := by cases l <;> rfl

theorem joinL_len (S : List Nat) : ∀ {ps : List (List Nat)}, ps ≠ [] → (joinL S ps).length + S.length = (ps.map (·.length)).sum + ps.length * S.length
  | [], h => absurd rfl h
  | [p], _ => by
    show p.length + S.length = p.length + 0 + (0 + 1) * S.length
    omega
  | p :: q :: r, _ => by
    have ih := joinL_len S (ps := q :: r) (by simp)
    show (p ++ (S ++ joinL S (q :: r))).length + S.length = p.length + ((q :: r).map (·.length)).sum + ((q :: r).length + 1) * S.length
    rw [List.length_append, List.length_append, Nat.succ_mul]
    omega
theorem spl_ne (S : List Nat) : ∀ (k : Nat) (acc l : List Nat), spl S k acc l ≠ []
  | k, acc, [] => by rw [spl_nil]; simp
  | 0, acc, c :: r => by
    cases h : pre S (c :: r) with
    | true => rw [spl_hit h]; simp
    | false => rw [spl_miss h]; exact spl_ne S 0 _ r
  | k + 1, acc, _ :: r => spl_ne S k acc r
theorem small_kind {y : List Nat} (h : y.all (· < 256) = true) (x : Str) : ¬ Builtin.Str.strKind x < Builtin.Str.strKind ⟨y.toArray⟩ := kind_ok (by simpa using h)
theorem splitOf (x : Str) {y : List Nat} (hy : y ≠ []) (h : y.all (· < 256) = true) : (Txt.split x ⟨y.toArray⟩).map tl = spl y 0 [] (tl x) := split_spl x ⟨y.toArray⟩ hy (small_kind h x)
theorem joinL_spl (l : List Nat) {y : List Nat} (hy : y ≠ []) (h : y.all (· < 256) = true) : joinL y (spl y 0 [] l) = l := by
  have e := StrLaws.join_split (⟨l.toArray⟩ : Str) ⟨y.toArray⟩
  have e2 := congrArg tl e
  rw [tl_join, splitOf _ hy h] at e2
  exact e2
/-- of the parts: how long they are together, and how many -/
theorem spl_sizes (l : List Nat) {y : List Nat} (hy : y ≠ []) (h : y.all (· < 256) = true) : ((spl y 0 [] l).map (·.length)).sum ≤ l.length ∧ (spl y 0 [] l).length ≤ l.length + 1 := by
  have e := joinL_len y (spl_ne y 0 [] l)
  rw [joinL_spl l hy h] at e
  have hp : 1 ≤ y.length := List.length_pos_iff.mpr hy
  have hn : 1 ≤ (spl y 0 [] l).length := List.length_pos_iff.mpr (spl_ne y 0 [] l)
  generalize (spl y 0 [] l).length = n at e hn
  generalize ((spl y 0 [] l).map (·.length)).sum = s at e
  obtain ⟨m, rfl⟩ : ∃ m, n = m + 1 := ⟨n - 1, by omega⟩
  rw [Nat.succ_mul] at e
  have hm : m ≤ m * y.length := Nat.le_mul_of_pos_right m hp
  omega
theorem sum_map_le {α : Type} (f g : α → Nat) : ∀ (l : List α), (∀ x ∈ l, f x ≤ g x) → (l.map f).sum ≤ (l.map g).sum
  | [], _ => Nat.le_refl _
  | x :: r, h => by
    have h1 := h x (List.mem_cons_self ..)
    have h2 := sum_map_le f g r fun y hy => h y (List.mem_cons_of_mem _ hy)
    rw [List.map_cons, List.map_cons, List.sum_cons, List.sum_cons]
    omega
theorem map_lines_len (f : List Nat → List Nat) (hf : ∀ l, (f l).length ≤ l.length) (l : List Nat) {y : List Nat} (hy : y ≠ []) (h : y.all (· < 256) = true) : (joinL y ((spl y 0 [] l).map f)).length ≤ l.length := by
  have e := joinL_len y (spl_ne y 0 [] l)
  rw [joinL_spl l hy h] at e
  have e2 := joinL_len y (ps := (spl y 0 [] l).map f) (by simpa using spl_ne y 0 [] l)
  rw [List.length_map, List.map_map] at e2
  have e3 := sum_map_le (fun x => (f x).length) (fun x => x.length) (spl y 0 [] l) fun x _ => hf x
  have e4 : ((spl y 0 [] l).map ((fun x => x.length) ∘ f)).sum = ((spl y 0 [] l).map fun x => (f x).length).sum := rfl
  omega
theorem marks_len (w : List Nat) : (marksOf w).length ≤ w.length := map_lines_len _ (fun l => by split <;> simp) w (by simp) (by decide)
theorem blanks_len (w : List Nat) : (blanksOf w).length ≤ w.length := map_lines_len _ (fun l => by split <;> simp) w (by simp) (by decide)
theorem filter_sum (p : List Nat → Bool) : ∀ ps : List (List Nat), ((ps.filter p).map (·.length)).sum ≤ (ps.map (·.length)).sum
  | [] => Nat.le_refl _
  | x :: r => by
    have ih := filter_sum p r
    rw [List.filter_cons]
    split
    · rw [List.map_cons, List.map_cons, List.sum_cons, List.sum_cons]
      omega
    · rw [List.map_cons, List.sum_cons]
      omega
theorem words_len (t : List Nat) : (wordsOf t).length ≤ t.length := by
  unfold wordsOf
  generalize hu : (t.map fun c => if c == 9 || c == 10 then 32 else c) = u
  have lu : u.length = t.length := by rw [← hu, List.length_map]
  have e := joinL_len [32] (spl_ne [32] 0 [] u)
  rw [joinL_spl u (by simp) (by decide)] at e
  have l1 : ([32] : List Nat).length = 1 := rfl
  generalize hq : (spl [32] 0 [] u).filter (fun w => !w.isEmpty) = q
  have hs : (q.map (·.length)).sum ≤ ((spl [32] 0 [] u).map (·.length)).sum := by rw [← hq]; exact filter_sum _ _
  have hl : q.length ≤ (spl [32] 0 [] u).length := by rw [← hq]; exact List.length_filter_le _ _
  cases q with
  | nil => exact Nat.zero_le _
  | cons a r =>
    have e2 := joinL_len [32] (ps := a :: r) (by simp)
    rw [l1] at e e2
    omega

/-! ### stripping leaves nothing just of a blank text -/
theorem strip_blank (x : Str) (goes : Nat → Bool) : ((Txt.stripBy goes true true x).length = 0) ↔ (tl x).all goes = true := by
  rw [stripBy_eq]
  obtain ⟨h1, h2, h3⟩ := lo_facts goes x
  obtain ⟨g1, g2, g3, g4⟩ := hi_facts goes x (stripLo goes true x) h1
  have hl : (Builtin.Str.strSub x (stripLo goes true x) (stripHi goes true x (stripLo goes true x))).length = stripHi goes true x (stripLo goes true x) - stripLo goes true x := by
    rw [len_tl, tl_strSub, List.length_take, List.length_drop, ← len_tl]
    omega
  rw [hl]
  have get : ∀ k, k < x.length → x.cps.getD k 0 ∈ tl x := fun k hk => by
    have hk' : k < x.cps.size := hk
    simp [tl, Array.getD, hk']
  constructor
  · intro h
    rw [List.all_eq_true]
    intro c hc
    obtain ⟨k, hk, e⟩ := List.getElem_of_mem hc
    have hkx : k < x.length := by rw [len_tl]; exact hk
    have e2 : x.cps.getD k 0 = c := by
      have hk' : k < x.cps.size := hkx
      rw [← e]
      simp [tl, Array.getD, hk']
    rw [← e2]
    by_cases hk2 : k < stripLo goes true x
    · exact h2 k hk2
    · exact g3 k (by omega) hkx
  · intro h
    rw [List.all_eq_true] at h
    rcases h3 with e | e
    · omega
    · by_cases hlt : stripLo goes true x < x.length
      · rw [h _ (get _ hlt)] at e
        cases e
      · omega
theorem blank_strip (x : Str) : ((Txt.stripChars x ⟨#[32, 9]⟩).length = 0) ↔ isBlank (tl x) = true := by
  unfold Txt.stripChars
  rw [strip_blank]
  unfold isBlank
  have e : (fun c => (#[32, 9] : Array Nat).contains c) = fun c => (c == 32 || c == 9) := by
    funext c
    rw [Bool.eq_iff_iff, Array.contains_iff_mem]
    simp
  show (tl x).all (fun c => (#[32, 9] : Array Nat).contains c) = true ↔ _
  rw [e]
theorem starts_pre (x : Str) {y : List Nat} (hy : y ≠ []) : Txt.startswith x ⟨y.toArray⟩ = pre y (tl x) := by
  unfold Txt.startswith
  rw [Nat.zero_add]
  have h := at_iff (x := x) (y := ⟨y.toArray⟩) hy 0
  rw [List.drop_zero] at h
  unfold StrLaws.At at h
  rw [Nat.zero_add] at h
  rw [Bool.eq_iff_iff, Bool.and_eq_true, decide_eq_true_eq]
  exact h

/-! ### slices of texts -/
theorem cutS_from (z : Str) (k : Nat) : tl (cutS z (some (k : Int)) none) = (tl z).drop k := by
  show (z.cps.toList.drop (HT.sIx z.length 0 (some (k : Int)))).take (HT.sIx z.length z.length none - HT.sIx z.length 0 (some (k : Int))) = z.cps.toList.drop k
  have hl : z.cps.toList.length = z.length := (len_tl z).symm
  rw [HT.sIx_nat, HT.sIx_none]
  by_cases h : k ≤ z.length
  · rw [Nat.min_eq_left h]
    exact List.take_of_length_le (by rw [List.length_drop]; omega)
  · rw [Nat.min_eq_right (by omega), List.drop_of_length_le (by omega), List.drop_of_length_le (by omega)]
    simp
theorem cutS_to (z : Str) (k : Nat) : tl (cutS z none (some (k : Int))) = (tl z).take k := by
  show (z.cps.toList.drop (HT.sIx z.length 0 none)).take (HT.sIx z.length z.length (some (k : Int)) - HT.sIx z.length 0 none) = z.cps.toList.take k
  have hl : z.cps.toList.length = z.length := (len_tl z).symm
  rw [HT.sIx_nat, HT.sIx_none, List.drop_zero, Nat.sub_zero]
  by_cases h : k ≤ z.length
  · rw [Nat.min_eq_left h]
  · rw [Nat.min_eq_right (by omega), List.take_of_length_le (by omega), List.take_of_length_le (by omega)]
theorem cutS_mid (z : Str) (a b : Nat) (h : a ≤ z.length) : tl (cutS z (some (a : Int)) (some (b : Int))) = ((tl z).drop a).take (b - a) := by
  show (z.cps.toList.drop (HT.sIx z.length 0 (some (a : Int)))).take (HT.sIx z.length z.length (some (b : Int)) - HT.sIx z.length 0 (some (a : Int))) = (z.cps.toList.drop a).take (b - a)
  have hl : z.cps.toList.length = z.length := (len_tl z).symm
  rw [HT.sIx_nat, HT.sIx_nat, Nat.min_eq_left h]
  by_cases hb : b ≤ z.length
  · rw [Nat.min_eq_left hb]
  · rw [Nat.min_eq_right (by omega), List.take_of_length_le (by rw [List.length_drop]; omega), List.take_of_length_le (by rw [List.length_drop]; omega)]
theorem nl_eq : ("\n" : Str) = ⟨[10].toArray⟩ := ext_tl (by decide +kernel)
theorem sp_eq : (" " : Str) = ⟨[32].toArray⟩ := ext_tl (by decide +kernel)
theorem tab_eq : ("\t" : Str) = ⟨[9].toArray⟩ := ext_tl (by decide +kernel)
theorem str_at {ys : List Str} {i : Nat} {x : V} (h : (ys.map V.str)[i]? = some x) : ∃ z, x = V.str z ∧ ys[i]? = some z := by
  rw [List.getElem?_map] at h
  cases e : ys[i]? with
  | none =>
    rw [e] at h
    cases h
  | some z =>
    rw [e] at h
    exact ⟨z, (Option.some.inj h).symm, rfl⟩

/-! ### comprehensions over the signs of a text -/
theorem lc_str {x : Str} {g : TG} {tt : TT} {te : TE} {vs : List Nat} {σ : L2.St} {H1 : Hp} {D : Addr} {Qd : Hp → Prop} (Pv : Nat → Hp → Prop) (h0 : Pv 0 (upd H1 D (.lst [])))
    (hs : ∀ i c H, (tl x)[i]? = some c → Pv i H → g (.str ⟨#[c]⟩) (wipe σ vs) H fun σ2 H2 => wipe σ2 vs = wipe σ vs ∧ tt σ2 H2 fun b H3 =>
      if b = true then te σ2 H3 fun y H4 => ∃ acc, H4 D = some (.lst acc) ∧ acc.length < sizeLine ∧ Pv (i + 1) (upd H4 D (.lst (acc ++ [y]))) else Pv (i + 1) H3) (hd : ∀ H, Pv (tl x).length H → Qd H) :
    ∃ W : Nat → Nat → Hp → Prop, (∃ m, W 0 m (upd H1 D (.lst []))) ∧ ∀ i m H, W i m H →
      ((Its x).stop i H ∧ Qd H) ∨ ((Its x).go i H ∧ ∃ Nx : Hp → Prop, (∀ H', Nx H' → ∃ m', m' < m ∧ W (i + 1) m' H') ∧ ∀ y H', (Its x).yld i H y H' → g y (wipe σ vs) H' fun σ2 H2 => wipe σ2 vs = wipe σ vs ∧ tt σ2 H2 fun b H3 =>
        if b = true then te σ2 H3 fun y H4 => ∃ acc, H4 D = some (.lst acc) ∧ acc.length < sizeLine ∧ Nx (upd H4 D (.lst (acc ++ [y]))) else Nx H3) := by
  have sz : x.cps.size = (tl x).length := by simp [tl]
  refine ⟨fun i m H => m = (tl x).length - i ∧ i ≤ (tl x).length ∧ Pv i H, ⟨(tl x).length, by simp, Nat.zero_le _, h0⟩, ?_⟩
  rintro i m H ⟨rfl, hi, p⟩
  by_cases hlt : i < (tl x).length
  · refine .inr ⟨by show i < x.cps.size; omega, Pv (i + 1), fun H' p' => ⟨(tl x).length - (i + 1), by omega, rfl, hlt, p'⟩, fun y H' z => ?_⟩
    obtain ⟨e, c, hc, ey⟩ := z
    subst e ey
    exact hs i c _ (by rw [← hc]; simp [tl]) p
  · have e : i = (tl x).length := by omega
    subst e
    exact .inl ⟨by show x.cps.size ≤ (tl x).length; omega, hd H p⟩

/-! ### texts levelled: the mathematics -/
theorem exp_line {n : Nat} : ∀ (l r : List Nat) (col : Nat), (∀ c ∈ l, c ≠ 10 ∧ c ≠ 13) → Mun.expT n col (l ++ 10 :: r) = Mun.expT n col l ++ 10 :: Mun.expT n 0 r
  | [], r, col, _ => by
    rw [List.nil_append, expc (by decide), if_pos (.inl rfl)]
    rfl
  | c :: l, r, col, h => by
    have h1 := h c (List.mem_cons_self ..)
    have ih := fun k => exp_line (n := n) l r k fun d m => h d (List.mem_cons_of_mem _ m)
    rw [List.cons_append]
    by_cases e : c = 9
    · rw [e, exp9, exp9, ih, List.append_assoc]
    · rw [expc e, expc e, if_neg (fun z => z.elim h1.1 h1.2), ih]
      rfl
theorem exp_join {n : Nat} : ∀ ls : List (List Nat), (∀ l ∈ ls, ∀ c ∈ l, c ≠ 10 ∧ c ≠ 13) → Mun.expT n 0 (joinL [10] ls) = joinL [10] (ls.map (Mun.expT n 0))
  | [], _ => rfl
  | [l], _ => rfl
  | l :: m :: r, h => by
    have ih := exp_join (n := n) (m :: r) fun d z => h d (List.mem_cons_of_mem _ z)
    show Mun.expT n 0 (l ++ ([10] ++ joinL [10] (m :: r))) = Mun.expT n 0 l ++ ([10] ++ joinL [10] ((m :: r).map (Mun.expT n 0)))
    rw [← ih]
    exact exp_line l _ 0 (h l (List.mem_cons_self ..))
/-- a line widened, sign by sign -/
def stW (f : List Nat) (c : Nat) : List Nat := if c = 9 then f ++ List.replicate (8 - f.length % 8) 32 else f ++ [c]
theorem stW_all : ∀ (l f : List Nat), (∀ c ∈ l, c ≠ 10 ∧ c ≠ 13) → l.foldl stW f = f ++ Mun.expT 8 f.length l
  | [], f, _ => by
    show f = f ++ []
    rw [List.append_nil]
  | c :: l, f, h => by
    have h1 := h c (List.mem_cons_self ..)
    rw [List.foldl_cons, stW_all l _ fun d m => h d (List.mem_cons_of_mem _ m)]
    unfold stW
    by_cases e : c = 9
    · rw [if_pos e, e, exp9, List.append_assoc, List.length_append, List.length_replicate]
    · rw [if_neg e, expc e, if_neg (fun z => z.elim h1.1 h1.2), List.append_assoc, List.length_append]
      rfl
def lead (l : List Nat) : Nat := (l.takeWhile fun c => c == 32).length
theorem lead_le (l : List Nat) : lead l ≤ l.length := (List.takeWhile_sublist _).length_le
theorem lead_drop : ∀ (l : List Nat) (k : Nat), k ≤ lead l → lead (l.drop k) = lead l - k
  | [], k, h => by
    have e : k = 0 := Nat.le_zero.mp h
    subst e
    rfl
  | c :: l, 0, h => rfl
  | c :: l, k + 1, h => by
    unfold lead at h ⊢
    rw [List.takeWhile_cons] at h ⊢
    cases e : (c == 32) with
    | false =>
      rw [e] at h
      exact absurd h (Nat.not_succ_le_zero _)
    | true =>
      rw [e] at h
      have h' : k ≤ lead l := Nat.le_of_succ_le_succ h
      have ih := lead_drop l k h'
      rw [List.drop_succ_cons]
      show lead (l.drop k) = lead l + 1 - (k + 1)
      rw [ih]
      omega
theorem drop_nil_of {l : List Nat} {k : Nat} (h : k = 0) : l.drop k = l := by rw [h, List.drop_zero]
def spaces (l : List Nat) : Bool := l.all (· == 32)
/-- the least of some numbers, 0 of none -/
def leastN : List Nat → Nat
  | [] => 0
  | a :: r => r.foldl Nat.min a
theorem foldl_min : ∀ (r : List Nat) (a : Nat), r.foldl Nat.min a ≤ a ∧ (∀ y ∈ r, r.foldl Nat.min a ≤ y) ∧ (r.foldl Nat.min a = a ∨ r.foldl Nat.min a ∈ r)
  | [], a => ⟨Nat.le_refl _, fun _ h => (by cases h), .inl rfl⟩
  | b :: r, a => by
    have ih := foldl_min r (Nat.min a b)
    have m1 : Nat.min a b ≤ a := Nat.min_le_left ..
    have m2 : Nat.min a b ≤ b := Nat.min_le_right ..
    rw [List.foldl_cons]
    refine ⟨by omega, fun y h => ?_, ?_⟩
    · rcases List.mem_cons.mp h with rfl | h
      · omega
      · exact ih.2.1 y h
    · rcases ih.2.2 with e | e
      · rw [e]
        rcases Nat.le_total a b with z | z
        · exact .inl (Nat.min_eq_left z)
        · exact .inr (by rw [show Nat.min a b = b from Nat.min_eq_right z]; exact List.mem_cons_self ..)
      · exact .inr (List.mem_cons_of_mem _ e)
theorem leastN_spec {ns : List Nat} (h : ns ≠ []) : leastN ns ∈ ns ∧ ∀ y ∈ ns, leastN ns ≤ y := by
  cases ns with
  | nil => exact absurd rfl h
  | cons a r =>
    have g := foldl_min r a
    refine ⟨?_, fun y hy => ?_⟩
    · rcases g.2.2 with e | e
      · show r.foldl Nat.min a ∈ _
        rw [e]
        exact List.mem_cons_self ..
      · exact List.mem_cons_of_mem _ e
    · rcases List.mem_cons.mp hy with rfl | hy
      · exact g.1
      · exact g.2.1 y hy
theorem leastN_eq {ns : List Nat} {m : Nat} (h : m ∈ ns) (hl : ∀ y ∈ ns, m ≤ y) : m = leastN ns := by
  have g := leastN_spec (ns := ns) (by rintro rfl; cases h)
  have a := hl _ g.1
  have b := g.2 _ h
  omega
theorem leastN_int {ns : List Nat} {m : Int} (h : m ∈ ns.map (fun n : Nat => (n : Int))) (hl : ∀ y ∈ ns.map (fun n : Nat => (n : Int)), m ≤ y) : m = (leastN ns : Nat) := by
  obtain ⟨k, hk, rfl⟩ := List.mem_map.mp h
  rw [leastN_eq hk fun y hy => Int.ofNat_le.mp (hl _ (List.mem_map.mpr ⟨y, hy, rfl⟩))]
/-- the least indent of lines that are not blank -/
def leads (ws : List (List Nat)) : List Nat := (ws.filter fun l => !spaces l).map lead
def levW (ws : List (List Nat)) : List (List Nat) := ws.map (·.drop (leastN (leads ws)))
theorem spaces_drop {l : List Nat} {k : Nat} (hk : k ≤ lead l) : spaces (l.drop k) = spaces l := by
  cases e : spaces l with
  | true =>
    unfold spaces at e ⊢
    rw [List.all_eq_true] at e ⊢
    exact fun c hc => e c (List.mem_of_mem_drop hc)
  | false =>
    cases e2 : spaces (l.drop k) with
    | false => rfl
    | true =>
      have h1 : (l.take k).all (· == 32) = true := by
        have hp : l.take k <+: l.takeWhile (fun c => c == 32) := by
          refine List.prefix_of_prefix_length_le (List.take_prefix k l) (List.takeWhile_prefix _) ?_
          exact Nat.le_trans (List.length_take_le ..) hk
        rw [List.all_eq_true]
        intro c hc
        exact List.all_eq_true.mp (List.all_takeWhile (p := fun c => c == 32) (l := l)) c (hp.subset hc)
      have h2 : spaces l = true := by
        unfold spaces at e2 ⊢
        rw [← List.take_append_drop k l, List.all_append, h1, e2]
        rfl
      rw [h2] at e
      cases e
theorem levW_again (ws : List (List Nat)) : levW (levW ws) = levW ws := by
  have key : leastN (leads (levW ws)) = 0 := by
    unfold levW
    generalize hm : leastN (leads ws) = m
    have hle : ∀ l ∈ ws, spaces l = false → m ≤ lead l := fun l hl hs => by
      have h : lead l ∈ leads ws := List.mem_map.mpr ⟨l, List.mem_filter.mpr ⟨hl, by rw [hs]; rfl⟩, rfl⟩
      rw [← hm]
      exact (leastN_spec (ns := leads ws) (fun z => by rw [z] at h; cases h)).2 _ h
    have hsp : ∀ l ∈ ws, spaces (l.drop m) = spaces l := fun l hl => by
      cases hs : spaces l with
      | false => rw [spaces_drop (hle l hl hs), hs]
      | true =>
        unfold spaces at hs ⊢
        rw [List.all_eq_true] at hs ⊢
        exact fun c hc => hs c (List.mem_of_mem_drop hc)
    by_cases hn : leads ws = []
    · have e2 : leads (ws.map (·.drop m)) = [] := by
        unfold leads at hn ⊢
        rw [List.map_eq_nil_iff, List.filter_eq_nil_iff] at hn ⊢
        intro l hl
        obtain ⟨l', hl', rfl⟩ := List.mem_map.mp hl
        show ¬ (!spaces (l'.drop m)) = true
        rw [hsp l' hl']
        exact hn l' hl'
      rw [e2]
      rfl
    · have g := leastN_spec hn
      rw [hm] at g
      obtain ⟨l, hl, e⟩ := List.mem_map.mp g.1
      obtain ⟨hl1, hl2⟩ := List.mem_filter.mp hl
      have hl3 : spaces l = false := by
        cases z : spaces l with
        | false => rfl
        | true =>
          rw [z] at hl2
          cases hl2
      have h0 : (0 : Nat) ∈ leads (ws.map (·.drop m)) := by
        refine List.mem_map.mpr ⟨l.drop m, List.mem_filter.mpr ⟨List.mem_map.mpr ⟨l, hl1, rfl⟩, ?_⟩, ?_⟩
        · rw [hsp l hl1, hl3]
          rfl
        · rw [lead_drop l m (by omega)]
          omega
      exact (leastN_eq h0 fun y _ => Nat.zero_le y).symm
  show (levW ws).map (·.drop (leastN (leads (levW ws)))) = levW ws
  rw [key]
  exact (List.map_congr_left fun l _ => List.drop_zero).trans (List.map_id _)
theorem lead_at : ∀ (l : List Nat), spaces l = false → ∃ c, l[lead l]? = some c ∧ (c == 32) = false ∧ ∀ (m d : Nat), m < lead l → l[m]? = some d → (d == 32) = true
  | [], h => by cases h
  | c :: l, h => by
    unfold lead
    rw [List.takeWhile_cons]
    cases e : (c == 32) with
    | false => exact ⟨c, rfl, e, fun m d hm _ => absurd hm (Nat.not_lt_zero _)⟩
    | true =>
      have h' : spaces l = false := by
        unfold spaces at h ⊢
        rw [List.all_cons, e] at h
        exact h
      obtain ⟨d, h1, h2, h3⟩ := lead_at l h'
      refine ⟨d, h1, h2, fun m g hm hg => ?_⟩
      cases m with
      | zero =>
        cases hg
        exact e
      | succ m => exact h3 m g (Nat.lt_of_succ_lt_succ hm) hg
theorem lead_by (goes : Nat → Bool) : ∀ (l : List Nat) (n : Nat), n ≤ l.length → (∀ k c, k < n → l[k]? = some c → goes c = true) → (n = l.length ∨ ∃ c, l[n]? = some c ∧ goes c = false) → (l.takeWhile goes).length = n
  | [], n, h, _, _ => (Nat.le_zero.mp h).symm
  | c :: l, 0, _, _, h3 => by
    rcases h3 with h3 | ⟨d, h3, h4⟩
    · cases h3
    · cases h3
      rw [List.takeWhile_cons, h4]
      rfl
  | c :: l, n + 1, h1, h2, h3 => by
    rw [List.takeWhile_cons, h2 0 c (Nat.zero_lt_succ _) rfl]
    show (l.takeWhile goes).length + 1 = n + 1
    rw [lead_by goes l n (Nat.le_of_succ_le_succ h1) (fun k d hk hd => h2 (k + 1) d (Nat.succ_lt_succ hk) hd) (h3.elim (fun z => .inl (Nat.succ.inj z)) .inr)]
theorem lstrip_len (x : Str) (goes : Nat → Bool) : (Txt.stripBy goes true false x).length = x.length - ((tl x).takeWhile goes).length := by
  rw [stripBy_eq]
  obtain ⟨h1, h2, h3⟩ := lo_facts goes x
  have hh : stripHi goes false x (stripLo goes true x) = x.length := rfl
  rw [hh]
  have hl : (Builtin.Str.strSub x (stripLo goes true x) x.length).length = x.length - stripLo goes true x := by
    rw [len_tl, tl_strSub, List.length_take, List.length_drop, ← len_tl]
    omega
  rw [hl]
  have get : ∀ k c, (tl x)[k]? = some c → x.cps.getD k 0 = c := fun k c h => by
    have hk := (List.getElem?_eq_some_iff.mp h).1
    have hk' : k < x.cps.size := by simpa [tl] using hk
    have e2 := (List.getElem?_eq_some_iff.mp h).2
    rw [← e2]
    simp [tl, Array.getD, hk']
  rw [lead_by goes (tl x) (stripLo goes true x) (by rw [← len_tl]; exact h1) (fun k c hk hc => by rw [← get k c hc]; exact h2 k hk) ?_]
  rcases h3 with e | e
  · exact .inl (by rw [e, len_tl])
  · by_cases hlt : stripLo goes true x < (tl x).length
    · refine .inr ⟨(tl x)[stripLo goes true x], List.getElem?_eq_getElem hlt, ?_⟩
      rw [← get _ _ (List.getElem?_eq_getElem hlt)]
      exact e
    · rw [len_tl] at h1
      exact .inl (by omega)
theorem contains_one (c : Nat) : (#[c] : Array Nat).contains = fun d => d == c := by
  funext d
  rw [Bool.eq_iff_iff, Array.contains_iff_mem]
  simp
theorem indent_len (x : Str) : (x.length : Int) - ((Txt.lstripChars x ⟨#[32]⟩).length : Int) = (lead (tl x) : Nat) := by
  have h : (Txt.lstripChars x ⟨#[32]⟩).length = x.length - lead (tl x) := by
    unfold Txt.lstripChars
    rw [contains_one]
    exact lstrip_len x _
  have h2 := lead_le (tl x)
  rw [← len_tl] at h2
  omega
theorem spaces_strip (x : Str) : ((Txt.stripChars x ⟨#[32]⟩).length = 0) ↔ spaces (tl x) = true := by
  unfold Txt.stripChars
  rw [strip_blank, contains_one]
  exact Iff.rfl

/-! ### min(a list of ints, default=an int) -/
section
variable {prog : Program} {w : World} {A : Around} {R : Result → Shared → Prop} {I S : Addr} {fp wr : List Addr} {arr : Array Value} {St : Nat → Heap → Prop} {val : Nat → Int} {kw : List (Str × Value)}
theorem minD_run (W : Walks prog w A.in1 I fp wr arr.size (fun i v => arr[i]? = some v) St) (cmp : CmpOf prog w A.in1 .Lt (fun i v => arr[i]? = some v) fun i j => decide (val i < val j)) (nS : S ∉ fp) :
    ∀ (k j b : Nat) (u : Shared) (x : Value) (c : Nat), arr.size = j + 1 + k → b ≤ j → (∀ i, i ≤ j → val b ≤ val i) → St (j + 1) u.heap → arr[b]? = some x →
      u.heap.get? S = some { cls := .type "list", dict := none, data := .seq #[x, x] c, slots := #[] } →
      (∀ b x h' tk, arr[b]? = some x → (∀ i, i < arr.size → val b ≤ val i) → (∀ a o, a ∉ wr → a ≠ S → u.heap.get? a = some o → h'.get? a = some o) → R (.ok (.ret x)) { u with heap := h', toks := tk }) →
      codeAny (model prog w) A (.builtin "min.loop" ⟨[.ref I, .none, .ref S], kw⟩) R u := by
  have nW : S ∉ wr := fun z => nS (W.sub _ z)
  have idn : (toString "min" ++ toString ".loop" : String) = "min.loop" := by decide +kernel
  intro k
  induction k with
  | zero =>
    intro j b u x c ek hb hv pos hx gS done
    refine codeAny_builtin F.entry_min_loop ?_; rw [Around.under_plainId F.plain_min_loop _]
    show wpAny _ A.in1 (seqItems? (.ref S) >>= _) _ _ u
    refine wpAny_bind (wpAny_seqItems gS rfl ?_)
    show wpAny _ A.in1 (tryCatch (pyNext (.ref I)) _ >>= _) _ _ u
    refine wpAny_bind (wpAny_tryCatch (W.done u _ _ (by rw [ek]; exact pos) fun h1 tk1 old1 => ?_))
    show wpAny _ A.in1 (updateSeq S (fun _ => #[]) >>= _) _ _ _; refine wpAny_bind ?_
    refine wpAny_updateSeq (old1 S _ nW gS) rfl (wpAny_bind (wpAny_letGo (wpAny_pure ?_)))
    exact done b x _ tk1 hx (fun i hi => hv i (by omega)) fun a o ha hne e => (Heap.get?_update_other _ _ (Ne.symm hne)).trans (old1 a o ha e)
  | succ k next =>
    intro j b u x c ek hb hv pos hx gS done
    refine codeAny_builtin F.entry_min_loop ?_; rw [Around.under_plainId F.plain_min_loop _]
    show wpAny _ A.in1 (seqItems? (.ref S) >>= _) _ _ u
    refine wpAny_bind (wpAny_seqItems gS rfl ?_)
    show wpAny _ A.in1 (tryCatch (pyNext (.ref I)) _ >>= _) _ _ u
    refine wpAny_bind (wpAny_tryCatch (W.item (j + 1) u _ _ (by omega) pos fun y h1 tk1 hy pos1 old1 => ?_))
    have gS1 := old1 S _ nW gS
    show wpAny _ A.in1 (tryCatch (holding [y, y] (richCompare .Lt y x >>= _)) _ >>= _) _ _ _
    refine wpAny_bind (wpAny_tryCatch (wpAny_holding (wpAny_bind (cmp (j + 1) b y x _ _ _ hy hx ?_))))
    refine wpAny_bind (wpAny_holding (wpAny_truthy_bool ?_)); refine wpAny_bind (wpAny_letGo (wpAny_pure ?_))
    by_cases lt : val (j + 1) < val b
    · rw [if_pos (show (fun i j => decide (val i < val j)) (j + 1) b = true from decide_eq_true lt)]
      refine wpAny_bind ?_; refine wpAny_updateSeq gS1 rfl (wpAny_bind (wpAny_letGo ?_)); rw [idn]
      refine wpAny_pure ⟨plainId_quiet F.plain_min_loop _, next (j + 1) (j + 1) _ y _ (by omega) (Nat.le_refl _) (fun i hi => ?_) (W.frame _ _ _ pos1 fun a ha o e => ?_) hy (Heap.get?_update_self _ gS1 rfl) fun b' x' h2 tk2 e1 e2 old2 => ?_⟩
      · by_cases hi2 : i = j + 1
        · rw [hi2]
          exact Int.le_refl _
        · have := hv i (by omega)
          omega
      · exact (Heap.get?_update_other _ _ (fun z : S = a => nS (z ▸ ha))).trans e
      · exact done b' x' h2 tk2 e1 e2 fun a o ha hne e => old2 a o ha hne ((Heap.get?_update_other _ _ (Ne.symm hne)).trans (old1 a o ha e))
    · rw [if_neg (show ¬ (fun i j => decide (val i < val j)) (j + 1) b = true from fun z => lt (of_decide_eq_true z))]
      refine wpAny_bind (wpAny_letGo ?_); rw [idn]
      refine wpAny_pure ⟨plainId_quiet F.plain_min_loop _, next (j + 1) b _ x c (by omega) (by omega) (fun i hi => ?_) pos1 hx gS1 fun b' x' h2 tk2 e1 e2 old2 => ?_⟩
      · by_cases hi2 : i = j + 1
        · rw [hi2]
          omega
        · exact hv i (by omega)
      · exact done b' x' h2 tk2 e1 e2 fun a o ha hne e => old2 a o ha hne (old1 a o ha e)
theorem minD_from (W : Walks prog w A.in1 I fp wr arr.size (fun i v => arr[i]? = some v) St) (cmp : CmpOf prog w A.in1 .Lt (fun i v => arr[i]? = some v) fun i j => decide (val i < val j)) (nS : S ∉ fp) {d : Value} {z : Str}
    {u : Shared} {c : Nat} (pos : St 0 u.heap) (gS : u.heap.get? S = some { cls := .type "list", dict := none, data := .seq #[] c, slots := #[] })
    (dflt : ∀ h' tk, arr.size = 0 → (∀ a o, a ∉ wr → a ≠ S → u.heap.get? a = some o → h'.get? a = some o) → R (.ok (.ret d)) { u with heap := h', toks := tk })
    (done : ∀ b x h' tk, arr[b]? = some x → (∀ i, i < arr.size → val b ≤ val i) → (∀ a o, a ∉ wr → a ≠ S → u.heap.get? a = some o → h'.get? a = some o) → R (.ok (.ret x)) { u with heap := h', toks := tk }) :
    codeAny (model prog w) A (.builtin "min.loop" ⟨[.ref I, .none, .ref S], [(z, d)]⟩) R u := by
  have nW : S ∉ wr := fun z => nS (W.sub _ z)
  have idn : (toString "min" ++ toString ".loop" : String) = "min.loop" := by decide +kernel
  refine codeAny_builtin F.entry_min_loop ?_; rw [Around.under_plainId F.plain_min_loop _]
  show wpAny _ A.in1 (seqItems? (.ref S) >>= _) _ _ u
  refine wpAny_bind (wpAny_seqItems gS rfl ?_)
  show wpAny _ A.in1 (tryCatch (pyNext (.ref I)) _ >>= _) _ _ u
  by_cases h0 : arr.size = 0
  · refine wpAny_bind (wpAny_tryCatch (W.done u _ _ (by rw [h0]; exact pos) fun h1 tk1 old1 => ?_))
    refine wpAny_bind (wpAny_rule (wpAny_pure ?_))
    exact dflt h1 tk1 h0 fun a o ha _ e => old1 a o ha e
  · refine wpAny_bind (wpAny_tryCatch (W.item 0 u _ _ (by omega) pos fun y h1 tk1 hy pos1 old1 => ?_))
    have gS1 := old1 S _ nW gS
    show wpAny _ A.in1 (updateSeq S (fun _ => #[y, y]) >>= _) _ _ _; refine wpAny_bind ?_
    refine wpAny_updateSeq gS1 rfl ?_; rw [idn]
    refine wpAny_pure ⟨plainId_quiet F.plain_min_loop _, minD_run W cmp nS (arr.size - 1) 0 0 _ y _ (by omega) (Nat.le_refl _) (fun i hi => by rw [Nat.le_zero.mp hi]; exact Int.le_refl _) (W.frame _ _ _ pos1 fun a ha o e => ?_) hy (Heap.get?_update_self _ gS1 rfl) fun b' x' h2 tk2 e1 e2 old2 => ?_⟩
    · exact (Heap.get?_update_other _ _ (fun z : S = a => nS (z ▸ ha))).trans e
    · exact done b' x' h2 tk2 e1 e2 fun a o ha hne e => old2 a o ha hne ((Heap.get?_update_other _ _ (Ne.symm hne)).trans (old1 a o ha e))
end
theorem minD_args (a v : Value) : argsOk "min" ⟨[a], [(Str.ofString "default", v)]⟩ := by unfold argsOk; kernel_rfl
theorem minD_raw {prog : Program} {w : World} {A : Around} {E : Value → Shared → Prop} {s : Shared} {l : Addr} {its : List Value} {ns : List Int} {d : Value} {Q : Value → Shared → Prop} (hh : A.handled = none) (hl : s.heap.IsList l its.toArray) (hi : IntsAre its ns)
    (dflt : ∀ h' tk, ns = [] → (∀ a o, s.heap.get? a = some o → h'.get? a = some o) → Q d { s with heap := h', toks := tk })
    (done : ∀ h' tk m t, m ∈ ns → (∀ y ∈ ns, m ≤ y) → (∀ a o, s.heap.get? a = some o → h'.get? a = some o) → Q (.int m t) { s with heap := h', toks := tk }) :
    wpAny (model prog w) A (call (.builtin "min") [.ref l] [(Str.ofString "default", d)]) Q E s := by
  obtain ⟨xs, e⟩ := hi.allInts.items
  have hn : numsOf (intItems xs).toList = ns := by rw [← e]; exact hi.numsOf
  rw [nums_intItems] at hn
  subst hn
  rw [e] at hl
  have idn : (toString "min" ++ toString ".loop" : String) = "min.loop" := by decide +kernel
  have ld : ∀ i, i < (intItems xs).size → ∃ p, xs.toList[i]? = some p ∧ numAt xs i = p.1 := fun i hlt => by
    have hlt' : i < xs.size := by simpa [intItems] using hlt
    refine ⟨xs[i], by simp [hlt'], by simp [numAt, hlt']⟩
  refine kmk_tree F.kind_min F.plain_min F.entry_min (minD_args _ _) ?_
  show wpAny _ A.in1 (Builtin.Builtins.bindParams "min" ["key", "default"] 0 ⟨[], [(Str.ofString "default", d)]⟩ >>= _) _ _ s
  refine wpAny_bind (wpAny_of_eq (show Builtin.Builtins.bindParams "min" ["key", "default"] 0 ⟨[], [(Str.ofString "default", d)]⟩ = pure [none, some d] from rfl) ?_)
  refine wpAny_bind (wpAny_pure (wpAny_bind (iter_intList hl fun s2 e2 pos hfp hlI => ?_)))
  subst e2
  refine wpAny_bind (wpAny_newObj_type ?_); rw [idn]
  have nS : (s.heap.push { cls := .type "list_iterator", data := .fields #[.ref l, .int 0 0] }).objs.size ∉ [s.heap.objs.size, l] := fun z => Nat.lt_irrefl _ (hfp _ z)
  have W := Walks.list (prog := prog) (w := w) (A := A.in1) hh _ l hlI (intItems xs)
  have old : ∀ h' : Heap, (∀ a o, a ∉ [s.heap.objs.size] → a ≠ (s.heap.push { cls := .type "list_iterator", data := .fields #[.ref l, .int 0 0] }).objs.size → ((s.heap.push { cls := .type "list_iterator", data := .fields #[.ref l, .int 0 0] }).push { cls := .type "list", data := .seq #[] }).get? a = some o → h'.get? a = some o) → ∀ a o, s.heap.get? a = some o → h'.get? a = some o := fun h' k a o g => by
    have lt := Heap.lt_size g
    refine k a o (fun z => ?_) (fun z => ?_) (Heap.get?_push_of_some _ (Heap.get?_push_of_some _ g))
    · rw [List.mem_singleton.mp z] at lt
      exact Nat.lt_irrefl _ lt
    · rw [z, Heap.size_push] at lt
      exact Nat.lt_irrefl _ (Nat.lt_of_succ_lt lt)
  refine wpAny_pure ⟨plainId_quiet F.plain_min_loop _, minD_from W (CmpOf.ints_lt (numAt xs) (fun _ _ => intItems_at)) nS (W.frame _ _ _ pos fun a _ o g => Heap.get?_push_of_some _ g) (Heap.get?_push_size _ rfl) (fun h' tk h0 k => ?_) fun b x h' tk hx hle k => ?_⟩
  · refine dflt h' tk ?_ (old h' k)
    have hz : xs.toList.length = 0 := by simpa [intItems] using h0
    rw [List.length_eq_zero_iff.mp hz]
    rfl
  · obtain ⟨t, rfl⟩ := intItems_at hx
    obtain ⟨p, hp, ep⟩ := ld b (Array.getElem?_eq_some_iff.mp hx).1
    refine done h' tk _ t ?_ (fun y hy => ?_) (old h' k)
    · rw [ep]
      exact List.mem_map.mpr ⟨p, List.mem_of_getElem? hp, rfl⟩
    · obtain ⟨q, hq, rfl⟩ := List.mem_map.mp hy
      obtain ⟨i, hi', rfl⟩ := List.getElem_of_mem hq
      have hlt : i < (intItems xs).size := by simpa [intItems] using hi'
      obtain ⟨q, hq2, eq⟩ := ld i hlt
      rw [List.getElem?_eq_getElem hi'] at hq2
      cases hq2
      rw [← eq]
      exact hle i hlt
def rMinD (K : PySem.W.Frag) : List V → List V → Hp → VK → Prop := fun vs zs H Q => ∃ (a : Addr) (ns : List Int) (d : Int), vs = [V.ref a] ∧ zs = [.int d] ∧ SqL K H a (ns.map V.int) ∧ ∀ m, (ns = [] ∧ m = d) ∨ (m ∈ ns ∧ ∀ y, y ∈ ns → m ≤ y) → Q (.int m) H
theorem cr_minD {X : Cx} (hc : X.calm = true) : CallRK X (.builtin "min") ["default"] (rMinD X.K) := by
  intro pins s σ H xs zs us ws Q I r1 r2 h
  obtain ⟨a, ns, d, rfl, rfl, sq, q⟩ := h
  obtain ⟨its, rv, hl, _⟩ := I.list sq
  rw [Vals.ref1 r1]
  cases r2 with
  | cons r rr =>
    cases rr
    obtain ⟨t, rfl⟩ := r
    exact minD_raw (I.ok.hd hc) hl.isList rv.ints (fun h' tk e k => ⟨.int _, H, I.kept k, ⟨_, rfl⟩, q d (.inl ⟨e, rfl⟩)⟩) fun h' tk m t' h1 h2 k => ⟨.int _, H, I.kept k, ⟨_, rfl⟩, q m (.inr ⟨h1, h2⟩)⟩

/-! ### (*xs, y) = a list -/
section
variable {prog : Program} {w : World} {A : Around} {E : Value → Shared → Prop} {s : Shared}
theorem star_front {l : Addr} {items : Array Value} {Q : List Value → Shared → Prop} (hl : s.heap.IsList l items) (hh : A.handled = none) (h1 : 1 ≤ items.size) (hz : items.size ≤ 16384)
    (h : ∀ (h' : Heap) (tk : Nat), (∀ b o, s.heap.get? b = some o → h'.get? b = some o) →
      Q (.ref h'.objs.size :: items.toList.drop (items.size - 1)) { s with heap := h'.push { cls := .type "list", data := .seq (items.toList.take (items.size - 1)).toArray }, toks := tk }) :
    wpAny (model prog w) A (unpackItems (.ref l) 2 (some 0)) Q E s := by
  have hl2 := hl
  obtain ⟨ob, hob, _⟩ := hl2
  have sz := Heap.lt_size hob
  have ne : l ≠ s.heap.objs.size := Nat.ne_of_lt sz
  unfold unpackItems notIterableAtAll
  refine wpAny_bind (wpAny_bind (wpAny_specialOf hl.typeIs slot_list_iter.lookup (wpAny_pure ?_)))
  rw [if_neg (by decide)]
  refine wpAny_bind (wpAny_holding (wpAny_pyIter_list hl (wpAny_bind (wpAny_holding (wpAny_pure ?_)))))
  rw [if_neg (Nat.not_lt_zero _)]
  refine wpAny_bind (wpAny_holding (PySem.W.kun_collect (T := "list_iterator") (items := items) (.inr (.inr (.inl rfl))) (Walks.list (A := A.in1) hh s.heap.objs.size l ne items) (fun _ _ z => z.1.typeIs) (k := 0) (Nat.zero_le _) ⟨⟨_, Heap.get?_push_size _ rfl, rfl, rfl⟩, hl.push _⟩ ?_ ?_ (fun h2 tk kp => ?_) ?_))
  · rw [Heap.size_push]
    exact Nat.lt_succ_self _
  · rw [Heap.size_push]
    exact Nat.lt_succ_of_lt sz
  · have ln : items.toList.length = items.size := Array.length_toList
    rw [List.drop_zero]
    show wpAny _ _ (if items.toList.length < 1 then _ else _) _ _ _
    rw [if_neg (by omega)]
    refine wpAny_bind (wpAny_newList (wpAny_pure ?_) ?_)
    · show Q ([] ++ [Value.ref h2.objs.size] ++ items.toList.drop (items.toList.length - 1)) _
      rw [ln]
      exact h h2 tk fun b o e => kp b o (Nat.ne_of_lt (Heap.lt_size e)) (Heap.get?_push_of_some _ e)
    · rw [List.length_take, sizeLine_eq]
      omega
  · rw [sizeLine_eq]
    omega
end
theorem vals_last : ∀ {xs : List V} {y : V} {its : List Value}, Vals (xs ++ [y]) its → ∃ us z, its = us ++ [z] ∧ Vals xs us ∧ RelV y z
  | [], y, its, h => by
    cases h with
    | cons r rr =>
      cases rr
      exact ⟨[], _, rfl, .nil, r⟩
  | x :: xs, y, its, h => by
    cases h with
    | cons r rr =>
      obtain ⟨us, z, e, a, b⟩ := vals_last rr
      exact ⟨_ :: us, z, by rw [e]; rfl, .cons r a, b⟩
def gStar (K : PySem.W.Frag) (t : TGs) : TG := fun v σ H Q => ∃ (l : Addr) (xs : List V) (y : V), v = .ref l ∧ SqL K H l (xs ++ [y]) ∧ xs.length ≤ 16000 ∧ ∀ D, H D = none → t [.ref D, y] σ (upd H D (.lst xs)) Q
theorem pg_star {X : Cx} {e f : Expr} {k : Nat} {p pos : Pos} {t : TGs} (hc : X.calm = true) (h : PGs X [e, f] t)
    (hn : (assignEach [.Starred e p, f] X.env).length = 2 := by rfl) (hst : (assignEach [.Starred e p, f] X.env).findIdx? (·.1) = some 0 := by rfl)
    (hm : (assignEach [.Starred e p, f] X.env).map (·.2) = (assignEach [e, f] X.env).map (·.2) := by rfl) : PG X (.Tuple [.Starred e p, f] k pos) (gStar X.K t) := by
  refine ⟨fun pins s σ H v u Q I r hw => ?_⟩
  obtain ⟨l, xs, y, e1, hq, hz, hw⟩ := hw
  subst e1
  cases r
  obtain ⟨its, rv, ht, hz2⟩ := I.list hq
  obtain ⟨us, z, rfl, r1, r2⟩ := vals_last rv
  have lu : xs.length = us.length := r1.length
  have sz : (us ++ [z]).toArray.size = us.length + 1 := by simp
  rw [assign_Tuple]
  refine wpAny_bind (wpAny_standAt ?_)
  unfold unpack
  rw [hn, hst]
  refine wpAny_bind (wpAny_holding (star_front ht.isList (I.ok.hd hc) (by omega) (by omega) fun h' tk kp => ?_))
  rw [hm, sz]
  have e1 : (us ++ [z]).toArray.toList.take (us.length + 1 - 1) = us := by simp
  have e2 : (us ++ [z]).toArray.toList.drop (us.length + 1 - 1) = [z] := by simp
  rw [e1, e2]
  have I1 : Inv X pins σ H { s with heap := h', toks := tk } := I.kept (t' := tk) kp
  have hf : H h'.objs.size = none := I1.hok.fresh (Nat.le_refl _)
  have I2 : Inv X pins σ (upd H h'.objs.size (.lst xs)) { s with heap := h'.push { cls := .type "list", data := .seq us.toArray }, toks := tk } := I1.laid (t' := tk) (fun b u q => Heap.get?_push_of_some _ q) (Nat.le_refl _) ⟨by rw [sizeLine_eq]; omega, us, 0, r1, Heap.get?_push_size _ rfl⟩
  exact h.run pins _ σ _ [.ref h'.objs.size, y] [.ref h'.objs.size, z] Q I2 (.cons rfl (.cons r2 .nil)) (hw _ hf)

/-! ### own classes: made by name, their fields within comprehensions -/
theorem vals_app : ∀ {vs : List V} {us : List Value} {zs : List V} {ws : List Value}, Vals vs us → Vals zs ws → Vals (vs ++ zs) (us ++ ws)
  | _, _, _, _, .nil, r => r
  | _, _, _, _, .cons a b, r => .cons a (vals_app b r)
structure OwnC (P : Program) (w : World) (K : PySem.W.Frag) (mg : Str → Option Value) (base : Heap) (x : Str) (C : Addr) (k : Nat) (ps ks : List Str) (n : Nat) (sp : Sp) : Prop where
  ex : ∃ f fd g, Mk K C f ∧ FnOk P w K mg base CX0 k f fd ps sp ∧ KBn K fd ps (n + 1) ks g (fun vs zs => vs ++ zs) ∧ mg x = some (.ref C)
theorem pe_ownC {X : Cx} {x : Str} {C : Addr} {k n : Nat} {ps ks : List Str} {sp : Sp} {e : Expr} {es : List Expr} {kws : List Keyword} {t tk : TA} {p pos : Pos} (O : OwnC X.prog X.w X.K X.mg X.base x C k ps ks n sp) (hr : Room (k + 1) X.A) (hg : Gl X x) (ha : PA X (e :: es) t) (hkw : PK X kws tk)
    (hall : (backToKw pos (keywordEach kws X.env)).all (·.1.isSome) = true := by rfl) (hks : (backToKw pos (keywordEach kws X.env)).filterMap (·.1) = ks := by rfl) (hdb : (x == ("__debug__" : Str)) = false := by decide) (he : starEach (e :: es) X.env = (false, eval e X.env) :: starEach es X.env := by rfl)
    (hpl : ((backTo pos (starEach (e :: es) X.env)).any (·.1) || (backToKw pos (keywordEach kws X.env)).any (·.1.isNone)) = false := by rfl) : PE X (.Call (.Name x p) (e :: es) kws pos) (tMakeK C n ks.length sp (fun vs zs => vs ++ zs) E0 t tk) := by
  obtain ⟨f, fd, g, M, F, hb, hm⟩ := O.ex
  exact pe_makeK M F hr hg hm hb pass0 ha hkw hall hks hdb he hpl
theorem FunD_okN {P : Program} {w : World} {K : PySem.W.Frag} {mg : Str → Option Value} {base : Heap} {x qual : Str} {params : Arguments} {body : List Stmt} {scope : Scope} {dvs : List V} {kws : List (Str × V)} {f : Addr} {fd : FuncData} {N ps : List Str} {k : Nat} {sp : Sp}
    (F : FunD K x qual params body scope dvs kws f fd) (S : FnScope N ps scope) (len : ∀ vs H Q E, sp vs H Q E → vs.length = ps.length)
    (hbody : ∀ (cdv : Value) (A : Around) (outer : List Env) (s : Shared) (H : Hp) (vs : List V) (Q : VK) (E : XK), Room k (A.deeper (envOfC qual scope s.heap.objs.size f cdv)) → sp vs H Q E →
      ∃ t, PSs (cxOf CX0 P w K mg base N qual scope f cdv A outer s H E).nox body t ∧ t { nx := fun _ H' => Q .non H', rt := Q } (start N vs) H) : FnOk P w K mg base CX0 (k + 1) f fd ps sp :=
  FunD.ok F S len fun cdv A outer s H vs Q E hr hsp => by
    obtain ⟨t, h, q⟩ := hbody cdv A outer s H vs Q E hr hsp
    exact ⟨t, h.nox, q⟩
theorem pe_fldK {X : Cx} {K' : PySem.W.Frag} (hK : X.K = K') {e : Expr} {ta : TE} {f : Str} {pos : Pos} (he : PE X e ta) (hb : attributeBase e f X.env (eval e X.env) = eval e X.env) : PE X (.Attribute e f pos) (tFld K' ta f) := by
  subst hK
  exact pe_fld he hb
theorem call_isiK {X : Cx} {K' : PySem.W.Frag} (hK : X.K = K') : CallR X (.builtin "isinstance") (rIsi K') := by
  subst hK
  exact call_isi
def tReplN (y z : Str) (to : TE) : TE := fun σ H Q => to σ H fun x H1 => ∃ a : Str, x = .str a ∧ (Builtin.Str.occurrences a y 0 a.length (a.length + 1)).isEmpty = true ∧ Q (.str a) H1
theorem replN {prog : Program} {w : World} {A : Around} {E : Value → Shared → Prop} {s : Shared} {x y z : Str} {t u v : Tok} {Q : Value → Shared → Prop} (h : (Builtin.Str.occurrences x y 0 x.length (x.length + 1)).isEmpty = true) (hq : ∀ t' k, Q (.str x t') { s with toks := k }) :
    wpAny (model prog w) A (call (.builtin "str.replace") [.str x t, .str y u, .str z v]) Q E s := by
  refine wpAny_call (codeAny_call_builtin PySem.F.slot_str_replace.plain PySem.F.entry_str_replace (PySem.F.slot_str_replace.check _ _ _ _ _ _ _ _ (typeIs_str _ _ _) (PySem.F.args_str_replace_3 _ _ _) ?_))
  show wpAny _ _ (if ((Builtin.Str.occurrences x y 0 x.length (x.length + 1)).isEmpty || (y.length == 0 && z.length == 0)) = true then (do rule "str.replace.nothing"; PySem.ret (.str x t)) else _) _ _ _
  rw [h, Bool.true_or, if_pos rfl]
  exact wpAny_bind (wpAny_rule (wpAny_pure (hq t s.toks)))
theorem pe_replN {X : Cx} {o : Expr} {to : TE} {y z : Str} {j0 j1 : Nat} {c0 c1 apos pos : Pos} (ho : PE X o to) (hst : starEach [.Constant (.str y) j0 c0, .Constant (.str z) j1 c1] X.env = [(false, eval (.Constant (.str y) j0 c0) X.env), (false, eval (.Constant (.str z) j1 c1) X.env)] := by rfl)
    (hbase : attributeBase o "replace" X.env (eval o X.env) = eval o X.env := by rfl) (hline : (apos.endLine == pos.line) = true := by rfl) : PE X (.Call (.Attribute o "replace" apos) [.Constant (.str y) j0 c0, .Constant (.str z) j1 c1] [] pos) (tReplN y z to) := by
  refine ⟨fun pins s σ H Q I h => ?_⟩
  refine PySem.Call_method2 hbase hst hline (thn (ho.run pins s σ H _ I h) fun v s1 ⟨x, H1, I1, r1, a, ex, hb, q⟩ => ?_)
  subst ex
  obtain ⟨tx, rfl⟩ := r1
  refine ⟨"str", _, PySem.F.plainAttrs_str, PySem.F.slot_str_replace, PySem.F.type_str_replace, typeIs_str _ _ _, (fun _ e => nomatch e), Calls.callWith_builtin rfl (Calls.evalArgs_plain (Calls.spliced_cons (Calls.Constant_str (Calls.spliced_cons (Calls.Constant_str (Calls.spliced_nil ?_))))))⟩
  exact replN hb fun t' k => ⟨.str a, H1, I1.tok k, ⟨t', rfl⟩, q⟩
structure Txt_Example (K : PySem.W.Frag) (mg : Str → Option Value) (C : Addr) : Prop where
  cl : Cls K C
  mgC : mg "Example" = some (.ref C)
  ha : PySem.W.findIn K (.ref C) "__class__" = some (some (.builtin "object.__class__"))
  hn : PySem.W.specialIn K (.builtin "object.__class__") "__get__" = some (some (.builtin "getset_descriptor.__get__"))
  ht : PySem.W.takesIn K (.builtin "object.__class__") = some true
  hm : PySem.W.mroIn K C (.type "object") = some true
  ko : PySem.W.kitOne K (.ref C) (.ref C) = some true
  n_source : NoAttr K C "source"
  n_want : NoAttr K C "want"
  n_error : NoAttr K C "error"
  n_line : NoAttr K C "line"
  n_indent : NoAttr K C "indent"
  n_options : NoAttr K C "options"
  n_bare : NoAttr K C "bare"
structure Txt_Comment (K : PySem.W.Frag) (mg : Str → Option Value) (C : Addr) : Prop where
  cl : Cls K C
  mgC : mg "Comment" = some (.ref C)
  ha : PySem.W.findIn K (.ref C) "__class__" = some (some (.builtin "object.__class__"))
  hn : PySem.W.specialIn K (.builtin "object.__class__") "__get__" = some (some (.builtin "getset_descriptor.__get__"))
  ht : PySem.W.takesIn K (.builtin "object.__class__") = some true
  hm : PySem.W.mroIn K C (.type "object") = some true
  ko : PySem.W.kitOne K (.ref C) (.ref C) = some true
  n_source : NoAttr K C "source"
  n_want : NoAttr K C "want"
  n_line : NoAttr K C "line"
  n_indent : NoAttr K C "indent"

/-! ### what a test asks is monotone -/
def MonoT (t : TT) : Prop := ∀ (σ : L2.St) (H : Hp) (Q Q' : Bool → Hp → Prop), (∀ (b : Bool) (H1 : Hp), Q b H1 → Q' b H1) → t σ H Q → t σ H Q'
def MonoE (t : TE) : Prop := ∀ (σ : L2.St) (H : Hp) (Q Q' : VK), (∀ (v : V) (H1 : Hp), Q v H1 → Q' v H1) → t σ H Q → t σ H Q'
def MonoA (t : TA) : Prop := ∀ (σ : L2.St) (H : Hp) (Q Q' : List V → Hp → Prop), (∀ (v : List V) (H1 : Hp), Q v H1 → Q' v H1) → t σ H Q → t σ H Q'
theorem mo_test {t : TE} (h : MonoE t) : MonoT (tTest t) := fun σ H Q Q' i q => h σ H _ _ (fun v H1 ⟨c, e, z⟩ => ⟨c, e, i _ _ z⟩) q
theorem mo_B {t : TE} (h : MonoE t) : MonoT (tB t) := fun σ H Q Q' i q => h σ H _ _ (fun v H1 ⟨c, e, z⟩ => ⟨c, e, i _ _ z⟩) q
theorem mo_not {t : TT} (h : MonoT t) : MonoT (tNot t) := fun σ H Q Q' i q => h σ H _ _ (fun b H1 z => i _ _ z) q
theorem mo_and {t u : TT} (h : MonoT t) (k : MonoT u) : MonoT (tAnd t u) := fun σ H Q Q' i q => h σ H _ _ (fun b H1 z => by
  cases b with
  | true => exact k σ H1 _ _ i z
  | false => exact i _ _ z) q
theorem mo_var {i : Nat} : MonoE (tVar i) := fun σ H Q Q' i ⟨v, e, q⟩ => ⟨v, e, i _ _ q⟩
theorem mo_const {v : V} : MonoE (tC v) := fun σ H Q Q' i q => i _ _ q
theorem mo_op {r : R2} {a b : TE} (hr : ∀ x y H (Q Q' : VK), (∀ (v : V) (H1 : Hp), Q v H1 → Q' v H1) → r x y H Q → r x y H Q') (ha : MonoE a) (hb : MonoE b) : MonoE (tOp r a b) := fun σ H Q Q' i q =>
  ha σ H _ _ (fun x H1 z => hb σ H1 _ _ (fun y H2 z => hr _ _ _ _ _ i z) z) q
theorem mo_nil : MonoA tNil := fun σ H Q Q' i q => i _ _ q
theorem mo_cons {e : TE} {t : TA} (he : MonoE e) (ht : MonoA t) : MonoA (tCons e t) := fun σ H Q Q' i q => he σ H _ _ (fun x H1 z => ht σ H1 _ _ (fun xs H2 z => i _ _ z) z) q
theorem mo_cb {r : List V → Hp → VK → Prop} {t : TA} (hr : ∀ xs H (Q Q' : VK), (∀ (v : V) (H1 : Hp), Q v H1 → Q' v H1) → r xs H Q → r xs H Q') (ht : MonoA t) : MonoE (tCB r t) := fun σ H Q Q' i q => ht σ H _ _ (fun xs H1 z => hr _ _ _ _ i z) q
theorem mo_call {sp : Sp} {dvs : List V} {E : XK} {t : TA} (hs : ∀ vs H (Q Q' : VK) E, (∀ (v : V) (H1 : Hp), Q v H1 → Q' v H1) → sp vs H Q E → sp vs H Q' E) (ht : MonoA t) : MonoE (tCall sp dvs E t) := fun σ H Q Q' i q => ht σ H _ _ (fun vs H1 z => hs _ _ _ _ _ i z) q
theorem mo_m1 {r : V → List V → Hp → VK → Prop} {a b : TE} (hr : ∀ x xs H (Q Q' : VK), (∀ (v : V) (H1 : Hp), Q v H1 → Q' v H1) → r x xs H Q → r x xs H Q') (ha : MonoE a) (hb : MonoE b) : MonoE (tM1 r a b) := fun σ H Q Q' i q =>
  ha σ H _ _ (fun x H1 ⟨e, z⟩ => ⟨e, hb σ H1 _ _ (fun y H2 z => hr _ _ _ _ _ i z) z⟩) q
theorem mo_I0 {g : Int → Int → V} : ∀ x y H (Q Q' : VK), (∀ (v : V) (H1 : Hp), Q v H1 → Q' v H1) → rI0 g x y H Q → rI0 g x y H Q' := fun x y H Q Q' i ⟨a, b, e1, e2, q⟩ => ⟨a, b, e1, e2, i _ _ q⟩
theorem mo_ix {K : PySem.W.Frag} : ∀ x y H (Q Q' : VK), (∀ (v : V) (H1 : Hp), Q v H1 → Q' v H1) → rIxL K x y H Q → rIxL K x y H Q' := fun x y H Q Q' i ⟨p, xs, j, z, e1, e2, e3, e4, q⟩ => ⟨p, xs, j, z, e1, e2, e3, e4, i _ _ q⟩

/-! ### levelled -/
theorem nine_spaces {l : List Nat} (h : ∀ c ∈ l, c ≠ 9) : isBlank l = spaces l := by
  unfold isBlank spaces
  induction l with
  | nil => rfl
  | cons c l ih =>
    have h9 : (c == 9) = false := beq_eq_false_iff_ne.mpr (h c (List.mem_cons_self ..))
    rw [List.all_cons, List.all_cons, h9, Bool.or_false, ih fun d m => h d (List.mem_cons_of_mem _ m)]
theorem exp_no9 (n col : Nat) (l : List Nat) : ∀ c ∈ Mun.expT n col l, c ≠ 9 := fun c h => by
  rcases Mun.exp_mem l col c h with rfl | ⟨_, h⟩
  · decide
  · exact h
theorem exp_no (n col : Nat) {l : List Nat} {d : Nat} (hd : d ≠ 32) (hl : d ∉ l) : d ∉ Mun.expT n col l := fun h => by
  rcases Mun.exp_mem l col d h with e | ⟨e, _⟩
  · exact hd e
  · exact hl e
theorem mk_of_tl : ∀ {ss : List Str} {ws : List (List Nat)}, ss.map tl = ws → ss = ws.map mk
  | [], ws, h => by
    rw [← h]
    rfl
  | s :: r, ws, h => by
    rw [← h, List.map_cons, List.map_cons, mk_tl', ← mk_of_tl (ss := r) rfl]
theorem split_join {x : Str} {ws : List (List Nat)} (h : tl x = joinL [10] ws) (hn : ws ≠ []) (h10 : ∀ l ∈ ws, (10 : Nat) ∉ l) : Txt.split x "\n" = ws.map mk := by
  refine mk_of_tl ?_
  rw [nl_eq, splitOf x (y := [10]) (by simp) (by decide), h]
  exact TL.spl_join hn h10
theorem sp_one : (" " : Str) = ⟨#[32]⟩ := ext_tl (by decide +kernel)
theorem len_one {a : Nat} : (⟨#[a]⟩ : Str).length = 1 := rfl
theorem lead_take (ws : List (List Nat)) {i : Nat} {l : List Nat} (h : ws[i]? = some l) : leads (ws.take (i + 1)) = leads (ws.take i) ++ (if spaces l then [] else [lead l]) := by
  unfold leads
  rw [take_filter _ h, List.map_append]
  cases spaces l <;> rfl
def natV (ns : List Nat) : List V := (ns.map fun n : Nat => (n : Int)).map V.int
theorem natV_app (a b : List Nat) : natV (a ++ b) = natV a ++ natV b := by
  unfold natV
  rw [List.map_append, List.map_append]
theorem leads_len (ws : List (List Nat)) : (leads ws).length ≤ ws.length := by
  unfold leads
  rw [List.length_map]
  exact List.length_filter_le ..
theorem join_parts : ∀ ws : List (List Nat), ws.length ≤ (joinL [10] ws).length + 1 ∧ ∀ l ∈ ws, l.length ≤ (joinL [10] ws).length
  | [] => ⟨Nat.zero_le _, fun _ h => (by cases h)⟩
  | [a] => ⟨by show 1 ≤ _; omega, fun l h => by rw [List.mem_singleton.mp h]; exact Nat.le_refl _⟩
  | a :: b :: r => by
    have ih := join_parts (b :: r)
    have e : joinL [10] (a :: b :: r) = a ++ ([10] ++ joinL [10] (b :: r)) := rfl
    have el : (joinL [10] (a :: b :: r)).length = a.length + (1 + (joinL [10] (b :: r)).length) := by rw [e, List.length_append, List.length_append]; rfl
    refine ⟨by rw [el, List.length_cons]; omega, fun l h => ?_⟩
    rcases List.mem_cons.mp h with rfl | h
    · omega
    · have := ih.2 l h
      omega
theorem app_len (x y : Str) : (x ++ y).length = x.length + y.length := by
  rw [len_tl, tl_append, List.length_append, len_tl, len_tl]
theorem nl_sum (m : Nat) (ws : List (List Nat)) (h : ws ≠ []) (hl : ∀ l ∈ ws, l.length ≤ m) : (joinL [10] ws).length + 1 ≤ m * ws.length + ws.length := by
  have a := joinL_len [10] h
  have b := sum_map_le (fun l : List Nat => l.length) (fun _ => m) ws hl
  have c : (ws.map fun _ => m).sum = m * ws.length := by
    clear a b h hl
    induction ws with
    | nil => rfl
    | cons x r ih =>
      rw [List.map_cons, List.sum_cons, ih, List.length_cons, Nat.mul_succ]
      omega
  have e1 : ([10] : List Nat).length = 1 := rfl
  rw [e1] at a
  omega
theorem sp_dec (c : Nat) : decide (V.str ⟨#[c]⟩ = V.str " ") = (c == 32) := by
  rw [sp_one, Bool.eq_iff_iff, decide_eq_true_iff, beq_iff_eq]
  constructor
  · intro h
    exact List.head_eq_of_cons_eq (congrArg (fun v => match v with | V.str y => tl y | _ => []) h)
  · rintro rfl
    rfl
theorem mem_join0 {c : Nat} : ∀ ws : List (List Nat), c ∈ joinL [] ws → ∃ u ∈ ws, c ∈ u
  | [], h => by cases h
  | [a], h => ⟨a, List.mem_cons_self .., h⟩
  | a :: b :: r, h => by
    have e : joinL [] (a :: b :: r) = a ++ ([] ++ joinL [] (b :: r)) := rfl
    rw [e, List.nil_append] at h
    rcases List.mem_append.mp h with h | h
    · exact ⟨a, List.mem_cons_self .., h⟩
    · obtain ⟨u, h1, h2⟩ := mem_join0 (b :: r) h
      exact ⟨u, List.mem_cons_of_mem _ h1, h2⟩
theorem lines_sum {ws : List (List Nat)} (h : ws ≠ []) (m : Nat) : ((ws.map fun l => mk (l.drop m)).map (·.length)).sum + ws.length ≤ (joinL [10] ws).length + 1 := by
  have a := joinL_len [10] h
  have b := sum_map_le (fun l : List Nat => (mk (l.drop m)).length) (fun l => l.length) ws fun l _ => by
    show (mk (l.drop m)).length ≤ l.length
    rw [mk_len, List.length_drop]
    omega
  rw [List.map_map]
  have e : ((fun x : Str => x.length) ∘ fun l : List Nat => mk (l.drop m)) = fun l : List Nat => (mk (l.drop m)).length := rfl
  rw [e]
  have e1 : ([10] : List Nat).length = 1 := rfl
  rw [e1] at a
  omega
theorem join_lev (ws : List (List Nat)) : Txt.join "\n" (ws.map fun l => mk (l.drop (leastN (leads ws)))) = mk (joinL [10] (levW ws)) := by
  have e : (ws.map fun l => mk (l.drop (leastN (leads ws)))) = (levW ws).map mk := by
    unfold levW
    rw [List.map_map]
    rfl
  rw [e]
  exact join_mk [10] _
theorem tab_dec (c : Nat) : decide (V.str ⟨#[c]⟩ = V.str "\t") = decide (c = 9) := by
  rw [tab_eq, Bool.eq_iff_iff, decide_eq_true_iff, decide_eq_true_iff]
  constructor
  · intro h
    exact List.head_eq_of_cons_eq (congrArg (fun v => match v with | V.str y => tl y | _ => []) h)
  · rintro rfl
    rfl
theorem strip_test (x : Str) : decide (V.str (Txt.stripChars x " ") = V.str "") = spaces (tl x) := by
  rw [sp_one, Bool.eq_iff_iff, decide_eq_true_iff, ← spaces_strip]
  constructor
  · intro h
    rw [V.str.inj h]
    decide +kernel
  · intro h
    refine congrArg V.str (ext_tl ?_)
    rw [len_tl] at h
    rw [List.length_eq_zero_iff.mp h]
    decide +kernel

section
variable {P : Program} {w : World} {K : PySem.W.Frag} {mg : Str → Option Value} {base : Heap}
/-! ### the program -/
def sp_is_blank : Sp := fun vs H Q _ => ∃ x : Str, vs = [.str x] ∧ x.length ≤ 1000000 ∧ Q (.bl (isBlank (tl x))) H
theorem ok_is_blank {f : Addr} {fd : FuncData} {dvs : List V} (F : Fn K "is_blank" s_is_blank dvs f fd) {t_BLANKS : Tok} (c_BLANKS : mg "BLANKS" = some (.str " \t" t_BLANKS)) : FnOk P w K mg base CX0 1 f fd ["line"] (sp_is_blank) := by
  refine Fn.okN F sc_is_blank (fun vs H Q E h => ?_) (fun cdv A outer s H vs Q E hr h => ?_)
  · obtain ⟨_, rfl, _⟩ := h
    rfl
  · obtain ⟨x, rfl, hx, k⟩ := h
    refine ⟨_, (pss_one (ps_ret (pe_notT (pe_m1 PySem.F.slot_str_strip PySem.F.type_str_strip mt_stripChars (pv 0) (pe_glob (v := .str " \t") rfl c_BLANKS ⟨_, rfl⟩))))), ?_⟩
    have e : (" \t" : Str) = ⟨#[32, 9]⟩ := ext_tl (by decide +kernel)
    refine ⟨_, rfl, ⟨_, rfl⟩, x, " \t", rfl, rfl, line_of hx, _, ⟨?_, rfl⟩, ?_⟩
    · exact Nat.le_trans (len_stripBy _ _ _ _) (line_of hx)
    · rw [e]
      have hb := blank_strip x
      cases h : isBlank (tl x) with
      | true =>
        rw [h] at k
        rw [show (((Txt.stripChars x ⟨#[32, 9]⟩).length : Int) != 0) = false by rw [hb.mpr h]; rfl]
        exact k
      | false =>
        rw [h] at k
        have hne : (Txt.stripChars x ⟨#[32, 9]⟩).length ≠ 0 := fun z => by
          rw [hb.mp z] at h
          cases h
        rw [show (((Txt.stripChars x ⟨#[32, 9]⟩).length : Int) != 0) = true by
          rw [bne_iff_ne]
          omega]
        exact k
def sp_indent_of : Sp := fun vs H Q _ => ∃ x : Str, vs = [.str x] ∧ x.length ≤ 1000000 ∧ Q (.int (lead (tl x) : Nat)) H
theorem ok_indent_of {f : Addr} {fd : FuncData} {dvs : List V} (F : Fn K "indent_of" s_indent_of dvs f fd) (m_len : mg "len" = none) : FnOk P w K mg base CX0 1 f fd ["line"] (sp_indent_of) := by
  refine Fn.okN F sc_indent_of (fun vs H Q E h => ?_) (fun cdv A outer s H vs Q E hr h => ?_)
  · obtain ⟨_, rfl, _⟩ := h
    rfl
  · obtain ⟨x, rfl, hx, k⟩ := h
    refine ⟨_, (pss_one (ps_ret (pe_op op_sub (pe_callB call_len_str (by rfl) m_len PySem.boot_len (pa_cons (pv 0) pa_nil)) (pe_callB call_len_str (by rfl) m_len PySem.boot_len (pa_cons (pe_m1 PySem.F.slot_str_lstrip PySem.F.type_str_lstrip mt_lstripChars (pv 0) pe_str) pa_nil))))), ?_⟩
    have e := indent_len x
    rw [← sp_one] at e
    rw [← e] at k
    exact ⟨.str x, rfl, x, rfl, line_of hx, .str x, rfl, ⟨_, rfl⟩, x, " ", rfl, rfl, line_of hx, _, rfl, Nat.le_trans (len_stripBy _ _ _ _) (line_of hx), _, _, rfl, rfl, k⟩
def sp_widened : Sp := fun vs H Q _ => ∃ x : Str, vs = [.str x] ∧ (tl x).length ≤ 10000 ∧ Q (.str (SX.S (Mun.expT 8 0 (tl x)))) H
theorem ok_widened {f : Addr} {fd : FuncData} {dvs : List V} (F : Fn K "widened" s_widened dvs f fd) {t_TAB : Tok} (c_TAB : mg "TAB" = some (.int 8 t_TAB)) : FnOk P w K mg base CX0 1 f fd ["text"] (sp_widened) := by
  refine Fn.okN F sc_widened (fun vs H Q E h => ?_) (fun cdv A outer s H vs Q E hr h => ?_)
  · obtain ⟨_, rfl, _⟩ := h
    rfl
  · obtain ⟨x, rfl, hx, k⟩ := h
    refine ⟨_, (pss_one (ps_ret (pe_m1 PySem.F.slot_str_expandtabs PySem.F.type_str_expandtabs mt_expandtabs (pv 0) (pe_glob (v := .int 8) rfl c_TAB ⟨_, rfl⟩)))), ?_⟩
    have lE := (Mun.exp_len (n := 8) (by decide) (tl x) 0).2
    exact ⟨.str x, rfl, ⟨_, rfl⟩, tl x, 8, congrArg V.str (mk_tl' x).symm, rfl, by decide, by decide, by omega, by omega, k⟩
def sp_levelled : Sp := fun vs H Q _ => ∃ (x : Str) (ls : List (List Nat)), vs = [.str x] ∧ tl x = joinL [10] ls ∧ ls ≠ [] ∧ (∀ l ∈ ls, ∀ c ∈ l, c ≠ 10 ∧ c ≠ 13) ∧ (tl x).length ≤ 10000 ∧
  ∀ H', Same H H' → Q (.str (mk (joinL [10] (levW (ls.map (Mun.expT 8 0)))))) H'
theorem ok_levelled {f : Addr} {fd : FuncData} {dvs : List V} (F : Fn K "levelled" s_levelled dvs f fd) (O_widened : Own P w K mg base "widened" 1 ["text"] [] (sp_widened)) (O_is_blank : Own P w K mg base "is_blank" 1 ["line"] [] (sp_is_blank)) (O_indent_of : Own P w K mg base "indent_of" 1 ["line"] [] (sp_indent_of)) (m_min : mg "min" = none) : FnOk P w K mg base CX0 2 f fd ["text"] (sp_levelled) := by
  refine Fn.okN F sc_levelled (fun vs H Q E h => ?_) (fun cdv A outer s H vs Q E hr h => ?_)
  · obtain ⟨_, _, rfl, _⟩ := h
    rfl
  · obtain ⟨x, ls, rfl, ex, hn, hc, hx, k⟩ := h
    refine ⟨_, (pss_cons (ps_set (i := 1) sc_levelled.nd rfl (.inl rfl) (pe_m1 PySem.F.slot_str_split PySem.F.type_str_split mt_split (pe_own O_widened (hr.mono (by decide)) (by rfl) (pa_cons (pv 0) pa_nil)) pe_str))
      (pss_cons (ps_set (i := 2) sc_levelled.nd rfl (.inr rfl) (pe_callBK (cr_minD rfl) (by rfl) m_min (by decide +kernel) (pa_cons (pe_lc (own := [("line", 3)]) (g := gName 3) (by rfl) sc_levelled.nd (pi_list (pv 1)) (blkOk_by (own := [("line", 3)]) (N := ["text", "lines", "least", "line"]) (sc := defScope s_levelled) (by decide +kernel)) (fun _ _ _ _ _ => (pg_name (i := 3) sc_levelled.nd rfl (.inl rfl))) (fun _ _ _ _ _ => (pts_one (pt_not (pt_val (pe_own O_is_blank (hr.mono (by decide)) (by rfl) (pa_cons (pv 3) pa_nil)))))) (fun _ _ _ _ _ => (pe_own O_indent_of (hr.mono (by decide)) (by rfl) (pa_cons (pv 3) pa_nil)))) pa_nil) (pk_cons pe_int pk_nil)))
      (pss_one (ps_ret (pe_m1 PySem.F.slot_str_join PySem.F.type_str_join mt_join pe_str (pe_lc (own := [("line", 3)]) (g := gName 3) (tt := tYes) (by rfl) sc_levelled.nd (pi_list (pv 1)) (blkOk_by (own := [("line", 3)]) (N := ["text", "lines", "least", "line"]) (sc := defScope s_levelled) (by decide +kernel)) (fun _ _ _ _ _ => (pg_name (i := 3) sc_levelled.nd rfl (.inl rfl))) (fun _ _ _ _ _ => pts_nil) (fun _ _ _ _ _ => (pe_slice sl_str (pv 3) (po_some (pv 2)) po_none)))))))), ?_⟩
    have eE : tl (SX.S (Mun.expT 8 0 (tl x))) = joinL [10] (ls.map (Mun.expT 8 0)) := by
      rw [← exp_join ls hc, ← ex]
    have lE := (Mun.exp_len (n := 8) (by decide) (tl x) 0).2
    have hW : ls.map (Mun.expT 8 0) ≠ [] := fun z => hn (List.map_eq_nil_iff.mp z)
    have h10 : ∀ l ∈ ls.map (Mun.expT 8 0), (10 : Nat) ∉ l := fun l hl => by
      obtain ⟨l', h', rfl⟩ := List.mem_map.mp hl
      exact exp_no 8 0 (by decide) fun z => (hc l' h' 10 z).1 rfl
    have h9 : ∀ l ∈ ls.map (Mun.expT 8 0), ∀ c ∈ l, c ≠ 9 := fun l hl => by
      obtain ⟨l', h', rfl⟩ := List.mem_map.mp hl
      exact exp_no9 8 0 l'
    have eS := split_join eE hW h10
    have pj := join_parts (ls.map (Mun.expT 8 0))
    rw [← eE] at pj
    have lE2 : (tl (SX.S (Mun.expT 8 0 (tl x)))).length ≤ 80000 := by
      show (Mun.expT 8 0 (tl x)).length ≤ 80000
      omega
    generalize ls.map (Mun.expT 8 0) = W at *
    refine ⟨.str x, rfl, x, rfl, hx, ⟨_, rfl⟩, _, "\n", rfl, rfl, by decide +kernel, ?_, fun p np => ?_⟩
    · rw [len_tl]
      exact line_of (by omega)
    rw [eS]
    have sp := same_new (o := .lst ((W.map mk).map V.str)) np
    refine ⟨.ref p, rfl, p, rfl, ⟨_, SqL.of upd_same⟩, fun L nL => lc_list (K := K) (a := p) (xs := (W.map mk).map V.str) (fun i H2 => H2 L = some (.lst (natV (leads (W.take i)))) ∧ Same (upd H p (.lst ((W.map mk).map V.str))) H2) ⟨upd_same, same_new nL⟩ (fun i H2 _ h2 => SqL.of (h2.2 _ _ upd_same)) ?_ ?_⟩
    · rintro i y H2 hi ⟨eL, s2⟩
      obtain ⟨z, rfl, hz⟩ := str_at hi
      rw [List.getElem?_map] at hz
      obtain ⟨l, hl, rfl⟩ := Option.map_eq_some_iff.mp hz
      have hm := List.mem_of_getElem? hl
      have ll := pj.2 l hm
      have lw : W.length ≤ 80001 := by omega
      have hi2 : i < W.length := (List.getElem?_eq_some_iff.mp hl).1
      have lm : (mk l).length ≤ 1000000 := by rw [mk_len]; omega
      refine ⟨rfl, .str (mk l), rfl, mk l, rfl, lm, _, rfl, ?_⟩
      rw [lead_take W hl, show isBlank (tl (mk l)) = spaces l from nine_spaces (h9 l hm)]
      show (if (!spaces l) = true then _ else _)
      cases spaces l with
      | true =>
        refine iteF ⟨?_, s2⟩
        show H2 L = some (.lst (natV (leads (W.take i) ++ [])))
        rw [List.append_nil]
        exact eL
      | false =>
        have l3 := leads_len (W.take i)
        rw [List.length_take] at l3
        refine iteT ⟨.str (mk l), rfl, mk l, rfl, lm, _, eL, ?_, ?_, fun b o e => ?_⟩
        · unfold natV
          rw [List.length_map, List.length_map]
          exact Nat.lt_of_le_of_lt (show (leads (W.take i)).length ≤ 80001 by omega) (by decide)
        · rw [upd_same]
          show some (HO.lst (natV (leads (W.take i)) ++ [.int (lead l : Nat)])) = some (.lst (natV (leads (W.take i) ++ [lead l])))
          rw [natV_app]
          rfl
        · rw [upd_ne (ne_of_none e nL)]
          exact s2 b o e
    · rintro H2 ⟨eL, s2⟩
      rw [List.length_map, List.length_map, List.take_length] at eL
      refine ⟨L, (leads W).map (fun n : Nat => (n : Int)), 0, rfl, rfl, SqL.of eL, fun m hm => ?_⟩
      have em : m = (leastN (leads W) : Nat) := by
        rcases hm with ⟨e, rfl⟩ | ⟨h1, h2⟩
        · rw [List.map_eq_nil_iff.mp e]
          rfl
        · exact leastN_int h1 h2
      subst em
      generalize em : leastN (leads W) = m
      refine ⟨⟨_, rfl⟩, .ref p, rfl, p, rfl, ⟨_, SqL.of (s2 _ _ upd_same)⟩, fun M nM => lc_list (K := K) (a := p) (xs := (W.map mk).map V.str) (fun i H3 => H3 M = some (.lst (((W.take i).map fun l => mk (l.drop m)).map V.str)) ∧ Same H2 H3) ⟨upd_same, same_new nM⟩ (fun i H3 _ h3 => SqL.of (h3.2 _ _ (s2 _ _ upd_same))) ?_ ?_⟩
      · rintro i y H3 hi ⟨eM, s3⟩
        obtain ⟨z, rfl, hz⟩ := str_at hi
        rw [List.getElem?_map] at hz
        obtain ⟨l, hl, rfl⟩ := Option.map_eq_some_iff.mp hz
        have ll := pj.2 l (List.mem_of_getElem? hl)
        have lm : (mk l).length ≤ 1000000 := by rw [mk_len]; omega
        have hi2 : i < W.length := (List.getElem?_eq_some_iff.mp hl).1
        refine ⟨rfl, ?_⟩
        unfold tYes
        show ite (true = true) _ _
        rw [if_pos rfl]
        refine ⟨.str (mk l), rfl, .int (m : Nat), rfl, m, rfl, mk l, rfl, line_of lm, _, eM, ?_, ?_, fun b o e => ?_⟩
        · rw [List.length_map, List.length_map, List.length_take]
          exact Nat.lt_of_le_of_lt (show min i W.length ≤ 80001 by omega) (by decide)
        · rw [upd_same, List.take_add_one, hl, List.map_append, List.map_append]
          refine congrArg (fun v => some (HO.lst (((W.take i).map fun l => mk (l.drop m)).map V.str ++ [v]))) (congrArg V.str (ext_tl ?_))
          rw [cutS_from]
          rfl
        · rw [upd_ne (ne_of_none e nM)]
          exact s3 b o e
      · rintro H3 ⟨eM, s3⟩
        rw [List.length_map, List.length_map, List.take_length] at eM
        have sl := lines_sum hW m
        rw [← eE] at sl
        refine ⟨"\n", M, _, rfl, rfl, .inl (SqL.of eM), ?_, ?_⟩
        · rw [List.length_map]
          have e1 : ("\n" : Str).length = 1 := rfl
          rw [e1, Nat.mul_one]
          exact Nat.le_trans sl (by omega)
        · rw [← em, join_lev]
          exact k _ (sp.trans (s2.trans s3))
end

/-! ### defs that may raise -/
theorem Fn.okX {P : Program} {w : World} {K : PySem.W.Frag} {mg : Str → Option Value} {base : Heap} {x : Str} {st : Stmt} {dvs : List V} {f : Addr} {fd : FuncData} {N ps : List Str} {k : Nat} {sp : Sp} (F : Fn K x st dvs f fd) (S : FnScope N ps (defScope st)) (len : ∀ vs H Q E, sp vs H Q E → vs.length = ps.length)
    (hbody : ∀ (cdv : Value) (A : Around) (outer : List Env) (s : Shared) (H : Hp) (vs : List V) (Q : VK) (E : XK), Room k (A.deeper (envOfC x (defScope st) s.heap.objs.size f cdv)) → sp vs H Q E →
      ∃ t, PSs (cxOf (L2.CX P w) P w K mg base N x (defScope st) f cdv A outer s H E) (defBody st) t ∧ t { nx := fun _ H' => Q .non H', rt := Q } (start N vs) H) : FnOk P w K mg base (L2.CX P w) (k + 1) f fd ps sp :=
  FunD.ok F S len fun cdv A outer s H vs Q E hr hsp => hbody cdv A outer s H vs Q E hr hsp
/-- a def of the text that may raise, as its callers see it -/
structure OwnX (P : Program) (w : World) (K : PySem.W.Frag) (mg : Str → Option Value) (base : Heap) (x : Str) (k : Nat) (ps : List Str) (dvs : List V) (sp : Sp) : Prop where
  ex : ∃ f fd ds, FnOk P w K mg base (L2.CX P w) k f fd ps sp ∧ mg x = some (.ref f) ∧ PySem.W.keepIn K (.ref f) = true ∧ Binds K fd ps ds ∧ Vals dvs ds
/-- an error of the text, as those who raise it see it -/
structure OwnE (P : Program) (w : World) (K : PySem.W.Frag) (mg : Str → Option Value) (base : Heap) (x : Str) (C : Addr) (k : Nat) (ps : List Str) (sp : Sp) : Prop where
  ex : ∃ fI fd, OexC K C ∧ PySem.W.findIn K (.ref C) "__init__" = some (some (.ref fI)) ∧ PySem.W.typeIn K (.ref fI) = some (.type "function") ∧ FnOk P w K mg base CX0 k fI fd ps sp ∧ Binds K fd ps [] ∧ mg x = some (.ref C)
section
variable {X : Cx} {x : Str} {k : Nat} {ps : List Str} {dvs : List V} {sp : Sp} {e : Expr} {es : List Expr} {t : TA} {p pos : Pos} {W : WX} {E : XK} {C : Addr}
theorem pe_ownX (O : OwnX X.prog X.w X.K X.mg X.base x k ps dvs sp) (hr : Room k X.A) (tk : Takes X W) (hW : ∀ cls d σ H, E cls d H → W cls d σ H) (hg : Gl X x) (ha : PA X (e :: es) t) (hdb : (x == ("__debug__" : Str)) = false := by decide) (he : starEach (e :: es) X.env = (false, eval e X.env) :: starEach es X.env := by rfl) (hpl : (backTo pos (starEach es X.env)).any (·.1) = false := by rfl) :
    PE X (.Call (.Name x p) (e :: es) [] pos) (tCall sp dvs E t) := by
  obtain ⟨f, fd, ds, F, hm, hk, hb, hd⟩ := O.ex
  exact pe_call F hr hg hm hk hb hd (passes_call tk hW) ha hdb he hpl
theorem pmk_E (O : OwnE X.prog X.w X.K X.mg X.base x C k ps sp) (hr : Room (k + 1) X.A) (hg : Gl X x) (ha : PA X (e :: es) t) (hdb : (x == ("__debug__" : Str)) = false := by decide) (he : starEach (e :: es) X.env = (false, eval e X.env) :: starEach es X.env := by rfl) (hpl : (backTo pos (starEach es X.env)).any (·.1) = false := by rfl) :
    PMk X (.Call (.Name x p) (e :: es) [] pos) (tMkO C sp [] t) := by
  obtain ⟨fI, fd, T, iC, tI, F, hb, hm⟩ := O.ex
  exact pmk_oex T iC tI F hr hb .nil (fun _ _ _ _ _ _ _ h => h.elim) hg hm ha hdb he hpl
/-! ### isinstance of the exception that a suite holds, its dict told -/
def rIsEd (K : PySem.W.Frag) (D a dd : Addr) : List V → Hp → VK → Prop := fun xs H Q => ∃ (c : V) (cv : Value) (b : Bool) (fs : List (Str × V)), xs = [.ref a, c] ∧ H dd = some (.xd fs) ∧ (∀ u, RelV c u → u = cv) ∧ PySem.W.kitOne K (.ref D) cv = some b ∧ Q (.bl b) H
theorem call_isEd {a D dd : Addr} {oe : Obj} {pn : List (Addr × Obj)} (C : ExcC X.K D) (hz : Zc (.ref D) (some dd) oe) (hf : ∃ vs, oe.data = .fields vs) : CallR (X.suite a ((a, oe) :: pn)) (.builtin "isinstance") (rIsEd X.K D a dd) := by
  intro pins s σ H xs us Q I r h
  obtain ⟨c, cv, b, fs, rfl, hdd, hcv, e, q⟩ := h
  cases r with
  | cons rx rr =>
    cases rr with
    | cons rt rr =>
      cases rr
      cases rx
      have ec := hcv _ rt
      subst ec
      obtain ⟨hget, _⟩ := I.pin (a, oe) (List.mem_append.mpr (.inl List.mem_cons_self))
      obtain ⟨vs, hv⟩ := hf
      have hx : ObjOk X.prog X.w H s.heap dd (.xd fs) := I.hok dd _ hdd
      obtain ⟨mA, hns, hr⟩ := hx
      obtain ⟨od, ho, hl⟩ := lookIn_ns hns
      have J : PySem.W.InstAt s.heap a oe D (some od) := ⟨hget, hz.1, by unfold PySem.W.notCls; rw [hv] <;> rfl, by rw [hz.2]; exact ho⟩
      obtain ⟨cdD, hcD, _⟩ := PySem.W.any_some C.hd
      exact PySem.W.kia_one (PySem.W.kitx_exc (by rw [hcD]; rfl) C.hg C.hk C.hs C.ha C.hn C.ht C.hm) I.kIn J e (fun z => nomatch z) fun tk => ⟨.bl b, H, I.kept (t' := tk) fun _ _ z => z, rfl, q⟩
end

/-! ### replacing a text times a number -/
theorem mul_made {prog : Program} {w : World} {A : Around} {E : Value → Shared → Prop} {s : Shared} {x : Str} {t u : Tok} {n : Int} {Q : Value → Shared → Prop} (hok : MulOk x n) (h1 : ¬ n < 1) (h2 : (n == 1 || x.length == 0) = false) (h : Q (.str (Txt.mul x n) s.toks) { s with toks := s.toks + 1 }) : wpAny (model prog w) A (binaryOp .Mult (.str x t) (.int n u)) Q E s := by
  refine PySem.P.mul_str hok.1 hok.2.1 hok.2.2 ?_
  unfold Txt.mul at h
  rw [if_neg h1, h2, if_neg Bool.false_ne_true] at h ⊢
  exact ⟨fits_reps (hok.2.2 h1 h2), h⟩
section
variable {prog : Program} {w : World} {A : Around} {E : Value → Shared → Prop} {s : Shared} {x y z : Str} {u v t : Tok}
theorem replGivesN (x y z : Str) (t u v : Tok) (hu : u ≠ 0) (hv : v ≠ 0) (huv : u ≠ v) (hyz : (y == z) = false) (hb : x.length + (x.length + 1) * z.length ≤ 16777216) {R : Result → Shared → Prop}
    (hq : ∀ t' k, R (.ok (.ret (.str (Txt.replace x y z) t'))) { s with toks := k }) :
    wpAny (model prog w) A.in1 (Builtin.«str.replace» ⟨[.str x t, .str y u, .str z v], []⟩) (fun fin s' => match fin with | .done f => R (.ok f) s' | .again c' => c'.quiet = true ∧ codeAny (model prog w) A c' R s') (fun e s' => R (.error e) s') s := by
  show wpAny _ _ (if ((Builtin.Str.occurrences x y 0 x.length (x.length + 1)).isEmpty || (y.length == 0 && z.length == 0)) = true then (do rule "str.replace.nothing"; PySem.ret (.str x t)) else (do
    let same ← isSame (.str y u) (.str z v)
    if same = true then (do rule "str.replace.old-is-new"; PySem.ret (.str x t)) else if Builtin.Str.tooLong (x.length + (Builtin.Str.occurrences x y 0 x.length (x.length + 1)).length * z.length) = true then unsupported "str.replace:memory" else PySem.retStr (Builtin.Str.glued z (Builtin.Str.partsBetween x (Builtin.Str.occurrences x y 0 x.length (x.length + 1)) y.length)))) _ _ _
  have hl : Builtin.Str.tooLong (x.length + (Builtin.Str.occurrences x y 0 x.length (x.length + 1)).length * z.length) = false := by
    have a := StrLaws.occ_length_le x y 0 x.length (x.length + 1)
    have b := Nat.mul_le_mul_right z.length a
    unfold Builtin.Str.tooLong sizeLine
    exact decide_eq_false (by omega)
  unfold Txt.replace at hq
  cases hc : ((Builtin.Str.occurrences x y 0 x.length (x.length + 1)).isEmpty || (y.length == 0 && z.length == 0)) with
  | true =>
    rw [if_pos rfl]
    rw [hc, if_pos rfl] at hq
    exact wpAny_bind (wpAny_rule (wpAny_pure (hq t s.toks)))
  | false =>
    rw [if_neg Bool.false_ne_true]
    rw [hc, if_neg Bool.false_ne_true] at hq
    refine wpAny_bind ?_
    show wpAny _ _ (isSame.created (y == z) u v) _ _ _
    unfold isSame.created
    rw [if_neg (by simp [hu, hv]), if_neg (by simpa using huv), hyz]
    refine wpAny_pure ?_
    rw [if_neg Bool.false_ne_true, hl, if_neg Bool.false_ne_true]
    exact wpAny_bind (wpAny_mkStr (wpAny_pure (hq _ _)) (fits_replaced y hb))
theorem replace_N {Q : Value → Shared → Prop} (hu : u ≠ 0) (hv : v ≠ 0) (huv : u ≠ v) (hyz : (y == z) = false) (hb : x.length + (x.length + 1) * z.length ≤ 16777216)
    (hq : ∀ t' k, Q (.str (Txt.replace x y z) t') { s with toks := k }) : wpAny (model prog w) A (call (.builtin "str.replace") [.str x t, .str y u, .str z v]) Q E s :=
  wpAny_call (codeAny_call_builtin PySem.F.slot_str_replace.plain PySem.F.entry_str_replace (PySem.F.slot_str_replace.check _ _ _ _ _ _ _ _ (typeIs_str _ _ _) (PySem.F.args_str_replace_3 _ _ _)
    (replGivesN x y z t u v hu hv huv hyz hb (R := fun r s' => match r with | .ok (.ret v) => Q v s' | .ok _ => False | .error e => E e s') hq)))
end
def tReplM (y z : Str) (to : TE) : TE := fun σ H Q => to σ H fun x H1 => ∃ a : Str, x = .str a ∧ a.length + (a.length + 1) * z.length ≤ 16777216 ∧ Q (.str (Txt.replace a y z)) H1
theorem pe_replM {X : Cx} {o : Expr} {to : TE} {y0 z : Str} {n : Int} {j0 j1 j2 : Nat} {c0 c1 c2 bp apos pos : Pos} (ho : PE X o to) (ok : MulOk y0 n) (h1 : ¬ n < 1) (h2 : (n == 1 || y0.length == 0) = false) (hyz : (Txt.mul y0 n == z) = false)
    (hst : starEach [.BinOp (.Constant (.str y0) j0 c0) .Mult (.Constant (.int n) j2 c2) bp, .Constant (.str z) j1 c1] X.env = [(false, eval (.BinOp (.Constant (.str y0) j0 c0) .Mult (.Constant (.int n) j2 c2) bp) X.env), (false, eval (.Constant (.str z) j1 c1) X.env)] := by rfl)
    (hbase : attributeBase o "replace" X.env (eval o X.env) = eval o X.env := by rfl) (hline : (apos.endLine == pos.line) = true := by rfl) : PE X (.Call (.Attribute o "replace" apos) [.BinOp (.Constant (.str y0) j0 c0) .Mult (.Constant (.int n) j2 c2) bp, .Constant (.str z) j1 c1] [] pos) (tReplM (Txt.mul y0 n) z to) := by
  refine ⟨fun pins s σ H Q I h => ?_⟩
  refine PySem.Call_method2 hbase hst hline (thn (ho.run pins s σ H _ I h) fun v s1 ⟨x, H1, I1, r1, a, ex, hb, q⟩ => ?_)
  subst ex
  obtain ⟨tx, rfl⟩ := r1
  refine ⟨"str", _, PySem.F.plainAttrs_str, PySem.F.slot_str_replace, PySem.F.type_str_replace, typeIs_str _ _ _, (fun _ e => nomatch e), Calls.callWith_builtin rfl (Calls.evalArgs_plain (Calls.spliced_cons (wpAny_BinOp (Calls.Constant_str (wpAny_Constant_int (mul_made ok h1 h2 (Calls.spliced_cons (Calls.Constant_str (Calls.spliced_nil ?_)))))))))⟩
  exact replace_N (by simp) (by simp) (by simp) hyz hb fun t' k => ⟨.str _, H1, I1.tok k, ⟨t', rfl⟩, q⟩

/-! ### the error of texts -/
structure Err_BadText (K : PySem.W.Frag) (mg : Str → Option Value) (C : Addr) : Prop where
  oex : OexC K C
  mgC : mg "BadText" = some (.ref C)
  xf : XfC K C
  exc : ExcC K C
  iE : PySem.W.isClsIn K C = true
  sE : PySem.W.subIn K (.ref C) (.ref C) = some true
  n_line : PySem.W.findIn K (.ref C) "line" = some none
  n_reason : PySem.W.findIn K (.ref C) "reason" = some none
  n_found : PySem.W.findIn K (.ref C) "found" = some none
def ScE (a : V) : Prop := a = .non ∨ (∃ s : Str, a = .str s) ∨ (∃ i : Int, a = .int i) ∨ ∃ b : Bool, a = .bl b
section
variable {P : Program} {w : World} {K : PySem.W.Frag} {mg : Str → Option Value} {base : Heap}
def sp_held : Sp := fun vs H Q _ => ∃ a : V, vs = [a] ∧ ScE a ∧ ∀ H', Same H H' → Q a H'
theorem ok_held {f : Addr} {fd : FuncData} {dvs : List V} (F : Fn K "held" s_held dvs f fd) (m_dict : mg "dict" = none) (m_isinstance : mg "isinstance" = none) (m_list : mg "list" = none) (m_tuple : mg "tuple" = none) : FnOk P w K mg base CX0 1 f fd ["thing"] (sp_held) := by
  refine Fn.okN F sc_held (fun vs H Q E h => ?_) (fun cdv A outer s H vs Q E hr h => ?_)
  · obtain ⟨_, rfl, _⟩ := h
    rfl
  · obtain ⟨a, rfl, hs, k⟩ := h
    refine ⟨_, (pss_cons (ps_if (pt_val (pe_callB call_isiT (by rfl) m_isinstance (by decide +kernel) (pa_cons (pv 0) (pa_cons (pe_tup (pa_cons (pe_bltn (v := .ty "list") (by rfl) m_list (by decide +kernel) rfl) (pa_cons (pe_bltn (v := .ty "tuple") (by rfl) m_tuple (by decide +kernel) rfl) pa_nil))) pa_nil))))
          (pss_one ps_never)
          pss_nil)
      (pss_cons (ps_if (pt_val (pe_callB call_isi (by rfl) m_isinstance (by decide +kernel) (pa_cons (pv 0) (pa_cons (pe_bltn (v := .ty "dict") (by rfl) m_dict (by decide +kernel) rfl) pa_nil))))
          (pss_one ps_never)
          pss_nil)
      (pss_one (ps_ret (pv 0))))), ?_⟩
    obtain ⟨n1, ty, k1, k2, k3⟩ : ∃ n : String, (∀ H, TyX K H a (.type n)) ∧ PySem.W.kitOne K (.type n) (.type "list") = some false ∧ PySem.W.kitOne K (.type n) (.type "tuple") = some false ∧ PySem.W.kitOne K (.type n) (.type "dict") = some false := by
      rcases hs with rfl | ⟨s, rfl⟩ | ⟨i, rfl⟩ | ⟨c, rfl⟩
      · exact ⟨"NoneType", fun H => .base .non, kit_ty (by decide +kernel), kit_ty (by decide +kernel), kit_ty (by decide +kernel)⟩
      · exact ⟨"str", fun H => .base (.str s), kit_ty (by decide +kernel), kit_ty (by decide +kernel), kit_ty (by decide +kernel)⟩
      · exact ⟨"int", fun H => .base (.int i), kit_ty (by decide +kernel), kit_ty (by decide +kernel), kit_ty (by decide +kernel)⟩
      · exact ⟨"bool", fun H => .base (.bl c), kit_ty (by decide +kernel), kit_ty (by decide +kernel), kit_ty (by decide +kernel)⟩
    refine ⟨a, rfl, by show 2 ≤ sizeLine; decide, fun T nT => ?_⟩
    have sT := same_new (o := .tup [.ty "list", .ty "tuple"]) nT
    have tT : (upd H T (.tup [.ty "list", .ty "tuple"])) T = some (.tup [.ty "list", .ty "tuple"]) := upd_same
    generalize upd H T (.tup [.ty "list", .ty "tuple"]) = H1 at sT tT ⊢
    refine ⟨a, T, [.ty "list", .ty "tuple"], _, _, false, rfl, tT, .cons (.ty "list") (.cons (.ty "tuple") .nil), ty H1, kitAny_cons (b := false) k1 (fun _ => kitAny_cons (b := false) k2 (fun _ => kitAny_nil) (fun h => Bool.noConfusion h)) (fun h => Bool.noConfusion h), false, rfl, iteF ?_⟩
    exact ⟨a, rfl, _, _, _, _, false, rfl, .ty "dict", ty H1, k3, false, rfl, iteF ⟨a, rfl, k H1 sT⟩⟩
def sp_BadText_init (C : Addr) : Sp := fun vs H Q _ => ∃ (x : Addr) (n : Int) (r f : Str), vs = [.ref x, .int n, .str r, .str f] ∧ H x = some (exo x C none) ∧ ∀ (H' : Hp) (d : Addr), (∀ b o, H b = some o → b ≠ x → H' b = some o) → H d = none → d ≠ x → H' x = some (exo x C (some d)) → H' d = some (exd d [("found", .str f), ("reason", .str r), ("line", .int n)]) → Q .non H'
theorem ok_BadText_init {f : Addr} {fd : FuncData} {dvs : List V} {kws : List (Str × V)} (F : FunD K "__init__" "BadText.__init__" (defArgs s_BadText_init) (defBody s_BadText_init) (defScope s_BadText_init) dvs kws f fd) {C_BadText : Addr} (T_BadText : Err_BadText K mg C_BadText) (O_held : Own P w K mg base "held" 1 ["thing"] [] (sp_held)) : FnOk P w K mg base CX0 2 f fd ["self", "line", "reason", "found"] (sp_BadText_init C_BadText) := by
  refine FunD_okN F sc_BadText_init (fun vs H Q E h => ?_) (fun cdv A outer s H vs Q E hr h => ?_)
  · obtain ⟨_, _, _, _, rfl, _⟩ := h
    rfl
  · obtain ⟨x, n, r, f, rfl, hx, k⟩ := h
    refine ⟨_, (pss_cons (ps_ost (pv 0) (pe_own O_held (hr.mono (by decide)) (by rfl) (pa_cons (pv 1) pa_nil)) rfl)
      (pss_cons (ps_ost (pv 0) (pe_own O_held (hr.mono (by decide)) (by rfl) (pa_cons (pv 2) pa_nil)) rfl)
      (pss_one (ps_ost (pv 0) (pe_own O_held (hr.mono (by decide)) (by rfl) (pa_cons (pv 3) pa_nil)) rfl)))), ?_⟩
    refine ⟨.int n, rfl, .int n, rfl, .inr (.inr (.inl ⟨n, rfl⟩)), fun H1 s1 => ⟨.ref x, rfl, x, C_BadText, rfl, T_BadText.oex, T_BadText.n_line, .inl ⟨s1 _ _ hx, fun dx nd ne => ?_⟩⟩⟩
    have h2 : ∀ b o, H b = some o → b ≠ x → (upd (upd H1 dx (exd dx [("line", .int n)])) x (exo x C_BadText (some dx))) b = some o := fun b o e nb => by
      rw [upd_ne nb, upd_ne (ne_of_none (s1 _ _ e) nd)]
      exact s1 _ _ e
    have ex2 : (upd (upd H1 dx (exd dx [("line", .int n)])) x (exo x C_BadText (some dx))) x = some (exo x C_BadText (some dx)) := upd_same
    have ed2 : (upd (upd H1 dx (exd dx [("line", .int n)])) x (exo x C_BadText (some dx))) dx = some (exd dx [("line", .int n)]) := by
      rw [upd_ne ne]
      exact upd_same
    have ndH : H dx = none := s1.free nd
    generalize upd (upd H1 dx (exd dx [("line", .int n)])) x (exo x C_BadText (some dx)) = H2 at h2 ex2 ed2 ⊢
    refine ⟨.str r, rfl, .str r, rfl, .inr (.inl ⟨r, rfl⟩), fun H3 s3 => ⟨.ref x, rfl, x, C_BadText, rfl, T_BadText.oex, T_BadText.n_reason, .inr ⟨dx, _, s3 _ _ ex2, s3 _ _ ed2, by show 1 ≤ 900; decide, ?_⟩⟩⟩
    have h4 : ∀ b o, H b = some o → b ≠ x → (upd H3 dx (exd dx [("reason", .str r), ("line", .int n)])) b = some o := fun b o e nb => by
      rw [upd_ne (ne_of_none e ndH)]
      exact s3 _ _ (h2 _ _ e nb)
    have ex4 : (upd H3 dx (exd dx [("reason", .str r), ("line", .int n)])) x = some (exo x C_BadText (some dx)) := by
      rw [upd_ne ne.symm]
      exact s3 _ _ ex2
    have ed4 : (upd H3 dx (exd dx [("reason", .str r), ("line", .int n)])) dx = some (exd dx [("reason", .str r), ("line", .int n)]) := upd_same
    generalize upd H3 dx (exd dx [("reason", .str r), ("line", .int n)]) = H4 at h4 ex4 ed4 ⊢
    refine ⟨.str f, rfl, .str f, rfl, .inr (.inl ⟨f, rfl⟩), fun H5 s5 => ⟨.ref x, rfl, x, C_BadText, rfl, T_BadText.oex, T_BadText.n_found, .inr ⟨dx, _, s5 _ _ ex4, s5 _ _ ed4, by show 2 ≤ 900; decide, ?_⟩⟩⟩
    refine k _ dx (fun b o e nb => ?_) ndH ne ?_ upd_same
    · rw [upd_ne (ne_of_none e ndH)]
      exact s5 _ _ (h4 _ _ e nb)
    · rw [upd_ne ne.symm]
      exact s5 _ _ ex4
end

/-! ### lines, kept and bare -/
theorem kit_self (K : PySem.W.Frag) (C : Addr) : PySem.W.kitOne K (.ref C) (.ref C) = some true := by
  unfold PySem.W.kitOne
  exact if_pos (by first | exact beq_self_eq_true _ | (show (C == C) = true; exact beq_self_eq_true C))
theorem bnd_items {K : PySem.W.Frag} {s : Shared} {fd : FuncData} {args : Args} {binds : List (Str × Value)} {T : Addr} {o : Obj} {its : Array Value} {n : Nat} (X : K.In s.heap) (lT : K.lookup T = some o) (oT : o.data = .seq its n) (h : ∃ k, bindArgs fd args = seqItems? (.ref T) >>= k ∧ k (some its) = pure binds) : BindsTo s fd args binds := L2.BindsTo.of_looks fun M => by
  obtain ⟨k, e1, e2⟩ := h
  rw [e1]
  exact looks_items X lT oT (PySem.W.Looks.of_pure e2)
def rowsV (ws : List (List Nat)) : HO := .lst ((ws.map mk).map V.str)
def ifAny (last : List Nat) : List (List Nat) := if last.isEmpty = true then [] else [last]
def keptOf (init : List (List Nat)) (last : List Nat) : List (List Nat) := init.map (· ++ [10]) ++ ifAny last
def rowsOf (init : List (List Nat)) (last : List Nat) : List (List Nat) := init ++ ifAny last
def bg (x y : Str) : Bool := Txt.startswith (Txt.lstripChars x " ") y
def X0 : List Nat := [62, 62, 62, 32, 120]
def wordS : List Nat → Bool
  | [] => false
  | c :: _ => c == 95 || Txt.isalnum ⟨#[c]⟩
def isHead (h : List Nat) : Bool := inV (.str (Txt.rstripChars (mk h) " ")) (v_HEADERS.map V.str)
def noNl (l : List Nat) : List Nat := tl (Txt.removesuffix (mk l) "\n")
def flatO : List (List Nat) → Option (List Nat)
  | [] => none
  | d => some (joinL [] d)
def errP : List (List Nat) → Option (List Nat)
  | [] => none
  | h :: r => if isHead (noNl h) = true then flatO (r.dropWhile fun l => !wordS l) else none
def errL : List (List Nat) → Option (List Nat)
  | [] => none
  | h :: r => if isHead h = true then flatO ((r.dropWhile fun l => !wordS l).map (· ++ [10])) else none
def optV : Option (List Nat) → V
  | none => .non
  | some l => .str (mk l)
theorem ten_eq : ("\n" : Str) = ⟨#[10]⟩ := ext_tl (by decide +kernel)
theorem noNl_fed (l : List Nat) : noNl (l ++ [10]) = l := by
  have k := (StrLaws.subAt_one (mk (l ++ [10])) 10 l.length).mpr (by
    show (l ++ [10])[l.length]? = some 10
    rw [List.getElem?_append_right (Nat.le_refl _), Nat.sub_self]
    rfl)
  have hl : (mk (l ++ [10])).length = l.length + 1 := by rw [mk_len, List.length_append]; rfl
  have l1 : (⟨#[10]⟩ : Str).length = 1 := rfl
  unfold noNl Txt.removesuffix
  rw [ten_eq, hl, l1, Nat.add_sub_cancel, k.2, Bool.and_true, decide_eq_true (by omega), if_pos rfl]
  unfold Txt.affix
  dsimp only
  rw [hl, Nat.sub_zero, show (l.length == l.length + 1) = false by rw [beq_eq_false_iff_ne]; omega, if_neg Bool.false_ne_true]
  rw [tl_strSub, List.drop_zero, Nat.sub_zero]
  show (l ++ [10]).take l.length = l
  rw [List.take_left]
theorem find3_none {x : Str} (h : (35 : Nat) ∉ tl x) (i : Int) : Txt.find3 x "#" i = -1 := by
  have e : ("#" : Str) = ⟨#[35]⟩ := ext_tl (by decide +kernel)
  unfold Txt.find3
  rcases StrLaws.occ_head_from x "#" (fromIndex x.length i) 1 (Nat.le_refl _) with ⟨h0, _⟩ | ⟨j, r, h0, _, hj, _⟩
  · rw [h0]
  · rw [e] at hj
    exact absurd (List.mem_of_getElem? (show (tl x)[j]? = some 35 from (StrLaws.subAt_one x 35 j).mp hj)) h
theorem kept_ne (init : List (List Nat)) (last : List Nat) : ∀ l ∈ keptOf init last, l ≠ [] := fun l hl => by
  rcases List.mem_append.mp hl with h | h
  · obtain ⟨l', _, rfl⟩ := List.mem_map.mp h
    simp
  · unfold ifAny at h
    cases last with
    | nil => cases h
    | cons c r =>
      rw [List.mem_singleton.mp h]
      simp
theorem sum_fed : ∀ ls : List (List Nat), ((ls.map (· ++ [10])).map (·.length)).sum = (ls.map (·.length)).sum + ls.length
  | [] => rfl
  | l :: r => by
    have ih := sum_fed r
    rw [List.map_cons, List.map_cons, List.map_cons, List.sum_cons, List.sum_cons, ih, List.length_append, List.length_cons (a := l) (as := r)]
    show l.length + 1 + _ = _
    omega
theorem kept_sum (init : List (List Nat)) (last : List Nat) : ((keptOf init last).map (·.length)).sum ≤ (joinL [10] (init ++ [last])).length := by
  have a := joinL_len [10] (ps := init ++ [last]) (by simp)
  have e1 : ([10] : List Nat).length = 1 := rfl
  rw [e1, List.map_append, List.sum_append, List.length_append] at a
  have c : ([last].map (·.length)).sum = last.length := by
    show last.length + 0 = _
    omega
  rw [c] at a
  have e2 : [last].length = 1 := rfl
  rw [e2] at a
  unfold keptOf ifAny
  rw [List.map_append, List.sum_append, sum_fed]
  split
  · show _ + 0 ≤ _
    omega
  · rw [c]
    omega
theorem drop_sum : ∀ (ws : List (List Nat)) (k : Nat), ((ws.drop k).map (·.length)).sum ≤ (ws.map (·.length)).sum
  | [], k => by
    rw [List.drop_nil]
    exact Nat.le_refl _
  | w :: r, 0 => Nat.le_refl _
  | w :: r, k + 1 => by
    have ih := drop_sum r k
    rw [List.drop_succ_cons, List.map_cons, List.sum_cons]
    omega
theorem cutV_drop (xs : List V) (k : Nat) (h : k ≤ xs.length) : cutV xs (some (k : Int)) none = xs.drop k := by
  unfold cutV
  rw [HT.sIx_nat, HT.sIx_none, Nat.min_eq_left h]
  exact List.take_of_length_le (by rw [List.length_drop]; omega)
theorem dropWhile_at {p : List Nat → Bool} : ∀ {r : List (List Nat)} {i : Nat} {l : List Nat}, r[i]? = some l → p l = false → (∀ j l', j < i → r[j]? = some l' → p l' = true) → r.dropWhile p = r.drop i
  | [], i, l, h, _, _ => by cases h
  | a :: r, 0, l, h, hp, _ => by
    cases h
    rw [List.dropWhile_cons, hp]
    rfl
  | a :: r, i + 1, l, h, hp, ha => by
    rw [List.dropWhile_cons, ha 0 a (Nat.zero_lt_succ _) rfl]
    show r.dropWhile p = r.drop i
    exact dropWhile_at h hp fun j l' hj hl => ha (j + 1) l' (Nat.succ_lt_succ hj) hl
theorem dropWhile_none {p : List Nat → Bool} : ∀ {r : List (List Nat)}, (∀ l ∈ r, p l = true) → r.dropWhile p = []
  | [], _ => rfl
  | a :: r, h => by
    rw [List.dropWhile_cons, h a (List.mem_cons_self ..)]
    exact dropWhile_none fun l hl => h l (List.mem_cons_of_mem _ hl)
theorem us_dec (c : Nat) : decide (V.str ⟨#[c]⟩ = V.str "_") = (c == 95) := by
  have e : ("_" : Str) = ⟨#[95]⟩ := ext_tl (by decide +kernel)
  rw [e, Bool.eq_iff_iff, decide_eq_true_iff, beq_iff_eq]
  constructor
  · intro h
    exact List.head_eq_of_cons_eq (congrArg (fun v => match v with | V.str y => tl y | _ => []) h)
  · rintro rfl
    rfl
theorem noNl_free {l : List Nat} (h : (10 : Nat) ∉ l) : noNl l = l := by
  have l1 : (⟨#[10]⟩ : Str).length = 1 := rfl
  unfold noNl Txt.removesuffix
  rw [ten_eq, l1]
  cases hb : (decide (1 ≤ (mk l).length) && Builtin.Str.subAt (mk l) ⟨#[10]⟩ ((mk l).length - 1)) with
  | false =>
    rw [if_neg Bool.false_ne_true]
    rfl
  | true =>
    rw [Bool.and_eq_true, decide_eq_true_eq] at hb
    have k := (StrLaws.subAt_one (mk l) 10 ((mk l).length - 1)).mp ⟨by rw [l1]; omega, hb.2⟩
    exact absurd (List.mem_of_getElem? (show l[_]? = some 10 from k)) h
theorem starts_empty (x : Str) : Txt.startswith x "" = true := by
  have e : ("" : Str) = ⟨#[]⟩ := ext_tl (by decide +kernel)
  unfold Txt.startswith
  rw [e, Nat.zero_add, StrLaws.subAt_eq, List.drop_zero]
  show (decide (0 ≤ x.length) && ((tl x).take 0 == [])) = true
  rw [decide_eq_true (Nat.zero_le _), List.take_zero]
  rfl
theorem ends_ten (l : List Nat) : Txt.endswith (mk (l ++ [10])) "\n" = true := by
  have k := (StrLaws.subAt_one (mk (l ++ [10])) 10 l.length).mpr (by
    show (l ++ [10])[l.length]? = some 10
    rw [List.getElem?_append_right (Nat.le_refl _), Nat.sub_self]
    rfl)
  have hl : (mk (l ++ [10])).length = l.length + 1 := by rw [mk_len, List.length_append]; rfl
  have l1 : (⟨#[10]⟩ : Str).length = 1 := rfl
  unfold Txt.endswith
  rw [ten_eq, hl, l1, Nat.add_sub_cancel, k.2, Bool.and_true, decide_eq_true (by omega)]
theorem joinL_more (S a : List Nat) {ps : List (List Nat)} (h : ps ≠ []) : joinL S (a :: ps) = a ++ (S ++ joinL S ps) := by
  cases ps with
  | nil => exact absurd rfl h
  | cons b r => rfl
theorem joinL_flat (a : List Nat) (r : List (List Nat)) : joinL [] (a :: r) = a ++ joinL [] r := by
  cases r with
  | nil =>
    show a = a ++ []
    rw [List.append_nil]
  | cons b r => rfl
theorem join_ten : ∀ ls : List (List Nat), joinL [10] (ls ++ [[]]) = joinL [] (ls.map (· ++ [10]))
  | [] => rfl
  | a :: r => by
    rw [List.cons_append, joinL_more _ _ (by simp), join_ten r, List.map_cons, joinL_flat, List.append_assoc]
theorem flat_ten : ∀ ls : List (List Nat), ls ≠ [] → ∃ m, joinL [] (ls.map (· ++ [10])) = m ++ [10]
  | [], h => absurd rfl h
  | [a], _ => ⟨a, rfl⟩
  | a :: b :: r, _ => by
    obtain ⟨m, e⟩ := flat_ten (b :: r) (by simp)
    rw [List.map_cons, joinL_flat, e]
    exact ⟨(a ++ [10]) ++ m, (List.append_assoc ..).symm⟩
theorem flat_len (ls : List (List Nat)) : (joinL [] (ls.map (· ++ [10]))).length = (ls.map (·.length)).sum + ls.length := by
  rw [← sum_fed]
  generalize ls.map (· ++ [10]) = k
  induction k with
  | nil => rfl
  | cons a r ih => rw [joinL_flat, List.length_append, ih, List.map_cons, List.sum_cons]
theorem err_ten (ls : List (List Nat)) : optV (errP (ls.map (· ++ [10]))) = .non ∨ ∃ e : Str, optV (errP (ls.map (· ++ [10]))) = .str e ∧ Txt.endswith e "\n" = true := by
  cases ls with
  | nil => exact .inl rfl
  | cons h r =>
    unfold errP
    rw [List.map_cons]
    dsimp only
    split
    · rw [List.dropWhile_map]
      generalize r.dropWhile _ = z
      cases z with
      | nil => exact .inl rfl
      | cons a b =>
        obtain ⟨m, e⟩ := flat_ten (a :: b) (by simp)
        refine .inr ⟨mk (joinL [] ((a :: b).map (· ++ [10]))), rfl, ?_⟩
        rw [e]
        exact ends_ten m
    · exact .inl rfl
theorem cutV_seg (xs : List V) (a b : Nat) (h1 : a ≤ b) (h2 : b ≤ xs.length) : cutV xs (some (a : Int)) (some (b : Int)) = (xs.drop a).take (b - a) := by
  unfold cutV
  rw [HT.sIx_nat, HT.sIx_nat, Nat.min_eq_left h2, Nat.min_eq_left (Nat.le_trans h1 h2)]
theorem le_sum {l : List Nat} : ∀ {ls : List (List Nat)}, l ∈ ls → l.length ≤ (ls.map (·.length)).sum
  | a :: r, h => by
    rw [List.map_cons, List.sum_cons]
    rcases List.mem_cons.mp h with rfl | h
    · omega
    · have := le_sum h
      omega
theorem rsuf_len (x y : Str) : (Txt.removesuffix x y).length ≤ x.length := by
  unfold Txt.removesuffix
  split
  · unfold Txt.affix
    dsimp only
    split
    · exact Nat.le_refl _
    · rw [len_tl, len_tl, tl_strSub, List.length_take, List.length_drop]
      omega
  · exact Nat.le_refl _
theorem ite_er {k : Bool} {er : V} {σ : L2.St} {H : Hp} {Q : VK} {u : TE} (c : Q er H) (ha : k = true → er = .non) (b : k = false → ∀ e : Str, er = .str e → Txt.endswith e "\n" = true → Q (.str e) H → u σ H Q) (hb : k = false → ∃ e : Str, er = .str e ∧ Txt.endswith e "\n" = true) : if k = true then tC .non σ H Q else u σ H Q := by
  cases k with
  | true =>
    rw [ha rfl] at c
    exact iteT c
  | false =>
    obtain ⟨e, e1, e2⟩ := hb rfl
    refine iteF (b rfl e e1 e2 ?_)
    rw [← e1]
    exact c
theorem ite_same {k : Bool} {A B C : Prop} (c : C) (a : k = true → C → A) (b : k = false → C → B) : if k = true then A else B := by
  cases k with
  | true => exact iteT (a rfl c)
  | false => exact iteF (b rfl c)
def Out (x : Addr) (H H' : Hp) : Prop := ∀ b o, H b = some o → b ≠ x → H' b = some o
theorem Out.same {x : Addr} {H H1 H2 : Hp} (a : Out x H H1) (s : Same H1 H2) : Out x H H2 := fun b o e n => s _ _ (a b o e n)
theorem Out.put {x : Addr} {o' : HO} {H H1 : Hp} (a : Out x H H1) : Out x H (upd H1 x o') := fun b o e n => by
  rw [upd_ne n]
  exact a b o e n
theorem put_len {f : Str} {v : V} {fs : List (Str × V)} {n : Nat} (h : fs.length ≤ n) : (putF f v fs).length ≤ n + 1 := Nat.le_trans (length_putF f v fs) (Nat.succ_le_succ h)
/-! ### what gives a token out; words -/
section
theorem pi_listK {X : Cx} {K' : PySem.W.Frag} (hK : X.K = K') {tg l : Expr} {tl : TE} (hl : PE X l tl) : PI X tg l (iList K' tl) := by
  subst hK
  exact pi_list hl
variable {X : Cx} {a o : Expr} {ta to : TE} {pos : Pos}
theorem ek_ix {r : R2} {n : Int} {j : Nat} {pos' : Pos} (hr : IxR X r) (ha : PE X a ta) (hs : PlainIx (.Constant (.int n) j pos')) : EK X (.Subscript a (.Constant (.int n) j pos') pos) (tOp r ta (tC (.int n))) := by
  refine ⟨fun pins s σ H Q I h => Subscript_ (thn (ha.run pins s σ H _ I h) fun v s1 ⟨x, H1, I1, r1, q1⟩ => wpAny_Constant_int (thnK (Nat.le_add_left 1 _) (hr a _ pins _ σ H1 x (.int n) v _ _ (I1.tok _) r1 ⟨_, rfl⟩ q1 (hs _ _)) fun w s3 k3 q => ⟨k3, q⟩))⟩
theorem pe_replK {y z : Str} {j0 j1 : Nat} {c0 c1 apos pos : Pos} (ho : EK X o to) (hyz : (y == z) = false) (hst : starEach [.Constant (.str y) j0 c0, .Constant (.str z) j1 c1] X.env = [(false, eval (.Constant (.str y) j0 c0) X.env), (false, eval (.Constant (.str z) j1 c1) X.env)] := by rfl)
    (hbase : attributeBase o "replace" X.env (eval o X.env) = eval o X.env := by rfl) (hline : (apos.endLine == pos.line) = true := by rfl) :
    PE X (.Call (.Attribute o "replace" apos) [.Constant (.str y) j0 c0, .Constant (.str z) j1 c1] [] pos) (tRepl y z to) := by
  refine ⟨fun pins s σ H Q I h => ?_⟩
  refine PySem.Call_method2 hbase hst hline (thn (ho.run pins s σ H _ I h) fun v s1 ⟨k1, x, H1, I1, r1, a, ex, hb, q⟩ => ?_)
  subst ex
  obtain ⟨tx, rfl⟩ := r1
  refine ⟨"str", _, PySem.F.plainAttrs_str, PySem.F.slot_str_replace, PySem.F.type_str_replace, typeIs_str _ _ _, (fun _ e => nomatch e), Calls.callWith_builtin rfl (Calls.evalArgs_plain (Calls.spliced_cons (Calls.Constant_str (Calls.spliced_cons (Calls.Constant_str (Calls.spliced_nil ?_))))))⟩
  exact PySem.SC.replace (show s1.toks ≠ 0 by omega) (show s1.toks + 1 ≠ 0 by omega) (show s1.toks ≠ s1.toks + 1 by omega) hyz hb fun t' k => ⟨.str (Txt.replace a y z), H1, I1.tok k, ⟨t', rfl⟩, q⟩
end
theorem occ_absent {x : Str} {c : Nat} (h : c ∉ tl x) : (Builtin.Str.occurrences x ⟨#[c]⟩ 0 x.length (x.length + 1)).isEmpty = true := by
  rcases StrLaws.occ_head x ⟨#[c]⟩ (x.length + 1) (by omega) with ⟨e, _⟩ | ⟨i, r, _, at_, _⟩
  · rw [e]
    rfl
  · exfalso
    have k := (StrLaws.subAt_one x c i).mp at_
    exact h (List.mem_of_getElem? (show (tl x)[i]? = some c from k))
theorem split_sizes (x : Str) {y : List Nat} (hy : y ≠ []) (h : y.all (· < 256) = true) : ((Txt.split x ⟨y.toArray⟩).map (·.length)).sum ≤ x.length ∧ (Txt.split x ⟨y.toArray⟩).length ≤ x.length + 1 := by
  have e := splitOf x hy h
  have s := spl_sizes (tl x) hy h
  rw [← e, List.map_map, List.length_map, ← len_tl] at s
  have e2 : (List.length ∘ tl) = fun z : Str => z.length := by
    funext z
    exact (len_tl z).symm
  rw [e2] at s
  exact s
theorem split_mem (x : Str) {y : List Nat} (hy : y ≠ []) (h : y.all (· < 256) = true) {z : Str} (hz : z ∈ Txt.split x ⟨y.toArray⟩) : z.length ≤ x.length := by
  have s := (split_sizes x hy h).1
  have : ∀ (l : List Str), z ∈ l → z.length ≤ (l.map (·.length)).sum := by
    intro l
    induction l with
    | nil => intro h; cases h
    | cons a r ih =>
      intro h
      rw [List.map_cons, List.sum_cons]
      rcases List.mem_cons.mp h with e | e
      · rw [e]
        omega
      · have := ih e
        omega
  have := this _ hz
  omega
theorem replL_one (c d : Nat) : ∀ l : List Nat, StrLaws.replL [c] [d] l = l.map fun e => if e == c then d else e
  | [] => by rw [StrLaws.replL_nil]; rfl
  | e :: r => by
    have ih := replL_one c d r
    unfold StrLaws.replL at ih ⊢
    unfold StrLaws.replS
    rw [List.map_cons, ← ih]
    by_cases h : e = c
    · subst h
      rw [if_pos (show List.take [e].length (e :: r) = [e] from rfl), beq_self_eq_true]
      rfl
    · rw [if_neg (by simpa using h), beq_eq_false_iff_ne.mpr h]
      rfl
theorem replace_map (x : Str) (c d : Nat) : tl (Txt.replace x ⟨[c].toArray⟩ ⟨[d].toArray⟩) = (tl x).map fun e => if e == c then d else e := by
  have h := StrLaws.replace_list (x := x) (y := ⟨[c].toArray⟩) (z := ⟨[d].toArray⟩) (Nat.le_refl _)
  show (Txt.replace x ⟨[c].toArray⟩ ⟨[d].toArray⟩).cps.toList = _
  rw [h]
  exact replL_one c d (tl x)
def full (z : Str) : Bool := !(tl z).isEmpty
theorem full_len (z : Str) : ((z.length : Int) != 0) = full z := by
  unfold full
  rw [len_tl, emptyEq]
  rw [Bool.eq_iff_iff]
  simp
/-- what stands behind the first colon -/
def behindC (y : Str) : Str := (Txt.partition y ":").2.2
def sgSub (a b : Str) : Prop := ∀ c ∈ tl a, c ∈ tl b
theorem strSub_sub (x : Str) (i j : Nat) : sgSub (Builtin.Str.strSub x i j) x := fun c hc => by
  rw [tl_strSub] at hc
  exact List.mem_of_mem_drop (List.mem_of_mem_take hc)
theorem behind_sub (y : Str) : sgSub (behindC y) y ∧ (behindC y).length ≤ y.length := by
  unfold behindC Txt.partition
  split
  · refine ⟨strSub_sub _ _ _, ?_⟩
    rw [len_tl, tl_strSub, List.length_take, List.length_drop, ← len_tl]
    omega
  · exact ⟨fun c hc => (by cases hc), Nat.zero_le _⟩
theorem cut_sub (x : Str) (a b : Option Int) : sgSub (cutS x a b) x ∧ (cutS x a b).length ≤ x.length := by
  refine ⟨fun c hc => ?_, ?_⟩
  · have h : c ∈ ((tl x).drop (HT.sIx x.length 0 a)).take (HT.sIx x.length x.length b - HT.sIx x.length 0 a) := hc
    exact List.mem_of_mem_drop (List.mem_of_mem_take h)
  · show (cutS x a b).length ≤ _
    rw [len_tl]
    show (((tl x).drop (HT.sIx x.length 0 a)).take (HT.sIx x.length x.length b - HT.sIx x.length 0 a)).length ≤ _
    rw [List.length_take, List.length_drop, ← len_tl]
    omega
def wordsS (x : Str) : List Str := (Txt.split x " ").filter full
theorem cut_one (l : List Nat) : cutS (mk l) none (some (1 : Int)) = mk (l.take 1) := by
  refine ext_tl ?_
  show (l.drop (HT.sIx (mk l).length 0 none)).take (HT.sIx (mk l).length (mk l).length (some ((1 : Nat) : Int)) - HT.sIx (mk l).length 0 none) = l.take 1
  rw [HT.sIx_none, HT.sIx_nat, List.drop_zero, Nat.sub_zero, mk_len]
  cases l with
  | nil => rfl
  | cons c r =>
    rw [List.length_cons, Nat.min_eq_left (by omega)]
section
variable {P : Program} {w : World} {K : PySem.W.Frag} {mg : Str → Option Value} {base : Heap}
def Rows10 (ls : List (List Nat)) : Prop := ∀ l ∈ ls, (10 : Nat) ∉ l
def sp_kept_lines : Sp := fun vs H Q _ => ∃ (x : Str) (init : List (List Nat)) (last : List Nat), vs = [.str x] ∧ tl x = joinL [10] (init ++ [last]) ∧ Rows10 (init ++ [last]) ∧ x.length ≤ 10000 ∧
  ∀ (H' : Hp) (p : Addr), Same H H' → H p = none → H' p = some (rowsV (keptOf init last)) → Q (.ref p) H'
theorem ok_kept_lines {f : Addr} {fd : FuncData} {dvs : List V} (F : Fn K "kept_lines" s_kept_lines dvs f fd) : FnOk P w K mg base CX0 1 f fd ["text"] (sp_kept_lines) := by
  refine Fn.okN F sc_kept_lines (fun vs H Q E h => ?_) (fun cdv A outer s H vs Q E hr h => ?_)
  · obtain ⟨_, _, _, rfl, _⟩ := h
    rfl
  · obtain ⟨x, init, last, rfl, ex, h10, hx, k⟩ := h
    refine ⟨_, (pss_cons (ps_asg (pe_m1 PySem.F.slot_str_split PySem.F.type_str_split mt_split (pv 0) pe_str) (pg_star rfl (pgs_cons (pg_name (i := 1) sc_kept_lines.nd rfl (.inl rfl)) (pgs_cons (pg_name (i := 2) sc_kept_lines.nd rfl (.inl rfl)) pgs_nil))))
      (pss_cons (ps_setLc (i := 3) (own := [("line", 4)]) (g := gName 4) (tt := tYes) (by rfl) sc_kept_lines.nd rfl rfl (sw_true rfl rfl rfl (by decide +kernel)) (pi_list (pv 1)) (blkOk_by (own := [("line", 4)]) (N := ["text", "lines", "rest", "kept", "line"]) (sc := defScope s_kept_lines) (by decide +kernel)) (fun _ _ _ _ _ => (pg_name (i := 4) sc_kept_lines.nd rfl (.inl rfl))) (fun _ _ _ _ _ => pts_nil) (fun _ _ _ _ _ => (pe_op op_add_str (pv 4) pe_str)))
      (pss_one (ps_ret (pe_ifExp (pt_tr (K' := K) (pv 2)) (pe_op op_cat (pv 3) (pe_lst (pa_cons (pv 2) pa_nil))) (pv 3)))))), ?_⟩
    have lt : (tl x).length ≤ 10000 := by rw [← len_tl]; exact hx
    have jp := join_parts (init ++ [last])
    rw [← ex, List.length_append] at jp
    have l1 : ("\n" : Str).length = 1 := rfl
    have hil : ∀ l ∈ init, l.length ≤ 10000 := fun l hl => Nat.le_trans (jp.2 l (List.mem_append_left _ hl)) lt
    have hin : init.length ≤ 10001 := by omega
    refine ⟨.str x, rfl, ⟨_, rfl⟩, x, "\n", rfl, rfl, by decide +kernel, line_of (by omega), fun p np => ?_⟩
    rw [split_join ex (by simp) h10]
    have sp := same_new (o := .lst (((init ++ [last]).map mk).map V.str)) np
    refine ⟨p, (init.map mk).map V.str, .str (mk last), rfl, SqL.of ?_, by rw [List.length_map, List.length_map]; omega, fun D nD => ⟨.ref D, _, rfl, .str (mk last), _, rfl, rfl, ?_⟩⟩
    · rw [upd_same, List.map_append, List.map_append]
      rfl
    have sD := same_new (o := .lst ((init.map mk).map V.str)) nD
    have eD : (upd (upd H p (.lst (((init ++ [last]).map mk).map V.str))) D (.lst ((init.map mk).map V.str))) D = some (.lst ((init.map mk).map V.str)) := upd_same
    generalize upd (upd H p (.lst (((init ++ [last]).map mk).map V.str))) D (.lst ((init.map mk).map V.str)) = H1 at sD eD ⊢
    have s1 : Same H H1 := sp.trans sD
    refine ⟨.ref D, rfl, D, rfl, ⟨_, SqL.of eD⟩, fun L nL => lc_list (K := K) (a := D) (xs := (init.map mk).map V.str) (fun i H2 => H2 L = some (rowsV ((init.take i).map (· ++ [10]))) ∧ Same H1 H2) ⟨upd_same, same_new nL⟩ (fun i H2 _ h => SqL.of (h.2 _ _ eD)) ?_ ?_⟩
    · rintro i v H2 hv ⟨eL, s2⟩
      obtain ⟨z, rfl, hz⟩ := str_at hv
      rw [List.getElem?_map] at hz
      obtain ⟨l, hl, rfl⟩ := Option.map_eq_some_iff.mp hz
      have gl := hil l (List.mem_of_getElem? hl)
      have hi : i < init.length := (List.getElem?_eq_some_iff.mp hl).1
      refine ⟨rfl, ?_⟩
      unfold tYes
      show ite (true = true) _ _
      rw [if_pos rfl]
      refine ⟨.str (mk l), rfl, _, _, rfl, rfl, line_of (by rw [mk_len, l1]; omega), _, eL, ?_, ?_, fun b o e => ?_⟩
      · rw [List.length_map, List.length_map, List.length_map, List.length_take]
        exact Nat.lt_of_le_of_lt (show min i init.length ≤ 10001 by omega) (by decide)
      · rw [upd_same, List.take_add_one, hl, List.map_append]
        unfold rowsV
        rw [List.map_append, List.map_append]
        exact congrArg (fun v => some (HO.lst ((((init.take i).map (· ++ [10])).map mk).map V.str ++ [v]))) (congrArg V.str (ext_tl (by rw [tl_append]; rfl)))
      · rw [upd_ne (ne_of_none e nL)]
        exact s2 b o e
    rintro H2 ⟨eL, s2⟩
    rw [List.length_map, List.length_map, List.take_length] at eL
    have nL0 : H L = none := s1.free nL
    refine ⟨.str (mk last), rfl, _, ⟨line_of (show (mk last).length ≤ 1000000 by rw [mk_len]; exact Nat.le_trans (jp.2 last (List.mem_append_right _ (List.mem_singleton.mpr rfl))) (by omega)), rfl⟩, ?_⟩
    unfold keptOf ifAny at k
    cases last with
    | nil =>
      refine iteF ⟨.ref L, rfl, k _ L (s1.trans s2) nL0 ?_⟩
      show H2 L = some (rowsV (init.map (· ++ [10]) ++ []))
      rw [List.append_nil]
      exact eL
    | cons c r =>
      rw [show (((mk (c :: r)).length : Int) != 0) = true by rw [mk_len, bne_iff_ne, List.length_cons]; omega]
      refine iteT ⟨.ref L, rfl, .str (mk (c :: r)), rfl, by show 1 ≤ sizeLine; decide, fun M nM => ⟨L, M, _, _, rfl, rfl, same_new nM _ _ eL, upd_same, ?_, fun q nq => ?_⟩⟩
      · rw [List.length_map, List.length_map, List.length_map]
        exact Nat.le_trans (show init.length + 1 ≤ 10002 by omega) (by decide)
      · refine k _ q (s1.trans (s2.trans ((same_new nM).trans (same_new nq)))) ((s1.trans (s2.trans (same_new nM))).free nq) ?_
        rw [upd_same]
        unfold rowsV
        rw [List.map_append, List.map_append]
        rfl
def sp_lines_of : Sp := fun vs H Q _ => ∃ (x : Str) (init : List (List Nat)) (last : List Nat), vs = [.str x] ∧ tl x = joinL [10] (init ++ [last]) ∧ Rows10 (init ++ [last]) ∧ x.length ≤ 10000 ∧
  ∀ (H' : Hp) (p : Addr), Same H H' → H p = none → H' p = some (rowsV (rowsOf init last)) → Q (.ref p) H'
theorem ok_lines_of {f : Addr} {fd : FuncData} {dvs : List V} (F : Fn K "lines_of" s_lines_of dvs f fd) (O_kept_lines : Own P w K mg base "kept_lines" 1 ["text"] [] (sp_kept_lines)) : FnOk P w K mg base CX0 2 f fd ["text"] (sp_lines_of) := by
  refine Fn.okN F sc_lines_of (fun vs H Q E h => ?_) (fun cdv A outer s H vs Q E hr h => ?_)
  · obtain ⟨_, _, _, rfl, _⟩ := h
    rfl
  · obtain ⟨x, init, last, rfl, ex, h10, hx, k⟩ := h
    refine ⟨_, (pss_one (ps_ret (pe_lc (own := [("line", 1)]) (g := gName 1) (tt := tYes) (by rfl) sc_lines_of.nd (pi_list (pe_own O_kept_lines (hr.mono (by decide)) (by rfl) (pa_cons (pv 0) pa_nil))) (blkOk_by (own := [("line", 1)]) (N := ["text", "line"]) (sc := defScope s_lines_of) (by decide +kernel)) (fun _ _ _ _ _ => (pg_name (i := 1) sc_lines_of.nd rfl (.inl rfl))) (fun _ _ _ _ _ => pts_nil) (fun _ _ _ _ _ => (pe_m1 PySem.F.slot_str_removesuffix PySem.F.type_str_removesuffix mt_removesuffix (pv 1) pe_str))))), ?_⟩
    have lt : (tl x).length ≤ 10000 := by rw [← len_tl]; exact hx
    have jp := join_parts (init ++ [last])
    rw [← ex, List.length_append] at jp
    have kb : ∀ l ∈ keptOf init last, l.length ≤ 10001 := fun l hl => by
      rcases List.mem_append.mp hl with h | h
      · obtain ⟨l', h', rfl⟩ := List.mem_map.mp h
        have := jp.2 l' (List.mem_append_left _ h')
        rw [List.length_append]
        show _ + 1 ≤ _
        omega
      · have : l = last := by
          unfold ifAny at h
          split at h
          · cases h
          · exact List.mem_singleton.mp h
        have := jp.2 last (List.mem_append_right _ (List.mem_singleton.mpr rfl))
        rw [‹l = last›]
        omega
    have kn : (keptOf init last).length ≤ 10002 := by
      unfold keptOf ifAny
      rw [List.length_append, List.length_map]
      split
      · show _ + 0 ≤ _
        omega
      · show _ + 1 ≤ _
        omega
    have kr : (keptOf init last).map noNl = rowsOf init last := by
      unfold keptOf rowsOf
      rw [List.map_append, List.map_map]
      congr 1
      · refine (List.map_congr_left fun l hl => ?_).trans (List.map_id _)
        exact noNl_fed l
      · unfold ifAny
        split
        · rfl
        · show [noNl last] = [last]
          rw [noNl_free (h10 last (List.mem_append_right _ (List.mem_singleton.mpr rfl)))]
    refine ⟨.str x, rfl, x, init, last, rfl, ex, h10, hx, fun H1 p s1 np ep => ⟨p, rfl, ⟨_, SqL.of ep⟩, fun L nL => ?_⟩⟩
    rw [← kr] at k
    generalize keptOf init last = ks at ep kb kn k
    refine lc_list (K := K) (a := p) (xs := (ks.map mk).map V.str) (fun i H2 => H2 L = some (rowsV ((ks.take i).map noNl)) ∧ Same H1 H2) ⟨upd_same, same_new nL⟩ (fun i H2 _ h => SqL.of (h.2 _ _ ep)) ?_ ?_
    · rintro i v H2 hv ⟨eL, s2⟩
      obtain ⟨z, rfl, hz⟩ := str_at hv
      rw [List.getElem?_map] at hz
      obtain ⟨l, hl, rfl⟩ := Option.map_eq_some_iff.mp hz
      have gl := kb l (List.mem_of_getElem? hl)
      have hi : i < ks.length := (List.getElem?_eq_some_iff.mp hl).1
      refine ⟨rfl, ?_⟩
      unfold tYes
      show ite (true = true) _ _
      rw [if_pos rfl]
      refine ⟨.str (mk l), rfl, ⟨_, rfl⟩, mk l, "\n", rfl, rfl, by rw [mk_len]; exact line_of (by omega), _, eL, ?_, ?_, fun b o e => ?_⟩
      · rw [List.length_map, List.length_map, List.length_map, List.length_take]
        exact Nat.lt_of_le_of_lt (show min i ks.length ≤ 10002 by omega) (by decide)
      · rw [upd_same, List.take_add_one, hl, List.map_append]
        unfold rowsV
        rw [List.map_append, List.map_append]
        rfl
      · rw [upd_ne (ne_of_none e nL)]
        exact s2 b o e
    rintro H2 ⟨eL, s2⟩
    rw [List.length_map, List.length_map, List.take_length] at eL
    exact k _ L (s1.trans s2) (s1.free nL) eL
/-- a text with a line feed behind it -/
def fedS (x : Str) : Str := if Txt.endswith x "\n" = true then x else x ++ "\n"
theorem fedS_of {x : Str} (h : Txt.endswith x "\n" = true) : fedS x = x := if_pos h
def wantS (x : Str) : Str := if ((x.length : Int) != 0) = true then fedS x else x
theorem wantS_of {x : Str} (h : x = "" ∨ Txt.endswith x "\n" = true) : wantS x = x := by
  unfold wantS
  split
  · rename_i hx
    rcases h with e | e
    · rw [e] at hx
      exact absurd hx (by decide +kernel)
    · exact fedS_of e
  · rfl
def errS : V → V
  | .str x => .str (fedS x)
  | v => v
theorem errS_of {er : V} (h : er = .non ∨ ∃ e : Str, er = .str e ∧ Txt.endswith e "\n" = true) : errS er = er := by
  rcases h with rfl | ⟨e, rfl, h⟩
  · rfl
  · exact congrArg V.str (fedS_of h)
def sp_fed : Sp := fun vs H Q _ => ∃ x : Str, vs = [.str x] ∧ x.length ≤ 100000 ∧ Q (.str (fedS x)) H
theorem ok_fed {f : Addr} {fd : FuncData} {dvs : List V} (F : Fn K "fed" s_fed dvs f fd) : FnOk P w K mg base CX0 1 f fd ["text"] (sp_fed) := by
  refine Fn.okN F sc_fed (fun vs H Q E h => ?_) (fun cdv A outer s H vs Q E hr h => ?_)
  · obtain ⟨_, rfl, _⟩ := h
    rfl
  · obtain ⟨x, rfl, hx, k⟩ := h
    refine ⟨_, (pss_one (ps_ret (pe_ifExp (pt_val (pe_m1 PySem.F.slot_str_endswith PySem.F.type_str_endswith mt_endswith (pv 0) pe_str)) (pv 0) (pe_op op_add_str (pv 0) pe_str)))), ?_⟩
    have l1 : ("\n" : Str).length = 1 := rfl
    refine ⟨_, rfl, ⟨_, rfl⟩, x, "\n", rfl, rfl, _, rfl, ?_⟩
    unfold fedS at k
    cases h : Txt.endswith x "\n" with
    | true =>
      rw [h, if_pos rfl] at k
      exact iteT ⟨_, rfl, k⟩
    | false =>
      rw [h, if_neg Bool.false_ne_true] at k
      exact iteF ⟨.str x, rfl, x, "\n", rfl, rfl, by rw [l1]; exact line_of (by omega), k⟩
def sp_words_of : Sp := fun vs H Q _ => ∃ x : Str, vs = [.str x] ∧ 9 ∉ tl x ∧ 10 ∉ tl x ∧ x.length ≤ 100000 ∧ ∀ (H' : Hp) (p : Addr), Same H H' → H p = none → H' p = some (.lst ((wordsS x).map V.str)) → Q (.ref p) H'
theorem ok_words_of {f : Addr} {fd : FuncData} {dvs : List V} (F : Fn K "words_of" s_words_of dvs f fd) : FnOk P w K mg base CX0 1 f fd ["text"] (sp_words_of) := by
  refine Fn.okN F sc_words_of (fun vs H Q E h => ?_) (fun cdv A outer s H vs Q E hr h => ?_)
  · obtain ⟨_, rfl, _⟩ := h
    rfl
  · obtain ⟨x, rfl, h9, h10, hx, k⟩ := h
    refine ⟨_, (pss_cons (ps_set (i := 1) sc_words_of.nd rfl (.inl rfl) (pe_replN (pe_replN (pv 0))))
      (pss_one (ps_ret (pe_lc (own := [("word", 2)]) (g := gName 2) (by rfl) sc_words_of.nd (pi_list (pe_m1 PySem.F.slot_str_split PySem.F.type_str_split mt_split (pv 1) pe_str)) (blkOk_by (own := [("word", 2)]) (N := ["text", "spaced", "word"]) (sc := defScope s_words_of) (by decide +kernel)) (fun _ _ _ _ _ => (pg_name (i := 2) sc_words_of.nd rfl (.inl rfl))) (fun _ _ _ _ _ => (pts_one (pt_tr (K' := K) (pv 2)))) (fun _ _ _ _ _ => (pv 2)))))), ?_⟩
    have o1 : (Builtin.Str.occurrences x "\t" 0 x.length (x.length + 1)).isEmpty = true := by
      rw [tab_eq]
      exact occ_absent h9
    have o2 : (Builtin.Str.occurrences x "\n" 0 x.length (x.length + 1)).isEmpty = true := by
      rw [nl_eq]
      exact occ_absent h10
    have sz := split_sizes x (y := [32]) (by simp) (by decide)
    refine ⟨_, rfl, x, rfl, o1, x, rfl, o2, .str x, rfl, ⟨_, rfl⟩, x, " ", rfl, rfl, by decide +kernel, line_of (by omega), fun p np => ⟨p, rfl, ⟨_, SqL.of upd_same⟩, fun L nL => ?_⟩⟩
    unfold wordsS at k
    rw [sp_eq] at nL k ⊢
    have s1 := same_new (o := .lst ((Txt.split x ⟨[32].toArray⟩).map V.str)) np
    have e1 : (upd H p (.lst ((Txt.split x ⟨[32].toArray⟩).map V.str))) p = some (.lst ((Txt.split x ⟨[32].toArray⟩).map V.str)) := upd_same
    have nL0 : H L = none := s1.free nL
    generalize upd H p (.lst ((Txt.split x ⟨[32].toArray⟩).map V.str)) = H1 at nL s1 e1 ⊢
    refine lc_list (K := K) (a := p) (xs := (Txt.split x ⟨[32].toArray⟩).map V.str) (fun i H2 => H2 L = some (.lst ((((Txt.split x ⟨[32].toArray⟩).take i).filter full).map V.str)) ∧ Same H1 H2)
      ⟨upd_same, same_new nL⟩ (fun i H2 _ h2 => SqL.of (h2.2 _ _ e1)) ?_ ?_
    · rintro i v H2 hv ⟨eL, s2⟩
      obtain ⟨z, rfl, hz⟩ := str_at hv
      have hil : i < (Txt.split x ⟨[32].toArray⟩).length := (List.getElem?_eq_some_iff.mp hz).1
      have zl := split_mem x (y := [32]) (by simp) (by decide) (List.mem_of_getElem? hz)
      refine ⟨rfl, .str z, rfl, _, ⟨line_of (by omega), rfl⟩, ?_⟩
      rw [full_len]
      have et := take_filter full hz
      cases hf : full z with
      | true =>
        rw [hf] at et
        have fl : (((Txt.split x ⟨[32].toArray⟩).take i).filter full).length ≤ i := Nat.le_trans (List.length_filter_le _ _) (List.length_take_le _ _)
        refine iteT ⟨.str z, rfl, _, eL, by rw [List.length_map]; exact Nat.lt_of_le_of_lt (show _ ≤ 200000 by omega) (by decide), ?_, fun b o e => ?_⟩
        · rw [upd_same, et, List.map_append]
          rfl
        · rw [upd_ne (ne_of_none e nL)]
          exact s2 b o e
      | false =>
        rw [hf] at et
        refine iteF ⟨?_, s2⟩
        rw [et]
        show H2 L = some (.lst (((((Txt.split x ⟨[32].toArray⟩).take i).filter full) ++ []).map V.str))
        rw [List.append_nil]
        exact eL
    · rintro H2 ⟨eL, s2⟩
      rw [List.length_map, List.take_length] at eL
      exact k _ L (s1.trans s2) nL0 eL
def sp_begins : Sp := fun vs H Q _ => ∃ x y : Str, vs = [.str x, .str y] ∧ x.length ≤ 10000 ∧ Q (.bl (bg x y)) H
theorem ok_begins {f : Addr} {fd : FuncData} {dvs : List V} (F : Fn K "begins" s_begins dvs f fd) : FnOk P w K mg base CX0 1 f fd ["line", "prompt"] (sp_begins) := by
  refine Fn.okN F sc_begins (fun vs H Q E h => ?_) (fun cdv A outer s H vs Q E hr h => ?_)
  · obtain ⟨_, _, rfl, _⟩ := h
    rfl
  · obtain ⟨x, y, rfl, hx, k⟩ := h
    refine ⟨_, (pss_one (ps_ret (pe_m1 PySem.F.slot_str_startswith PySem.F.type_str_startswith mt_startswith (pe_m1 PySem.F.slot_str_lstrip PySem.F.type_str_lstrip mt_lstripChars (pv 0) pe_str) (pv 1)))), ?_⟩
    exact ⟨.str x, rfl, ⟨_, rfl⟩, x, " ", rfl, rfl, line_of (by omega), ⟨_, rfl⟩, .str y, rfl, _, y, rfl, rfl, k⟩
def Short (ws : List (List Nat)) : Prop := ws.length ≤ 10000 ∧ ∀ l ∈ ws, l.length ≤ 10000
/-- where a row of lines ends that all have p, from i on -/
def runL (p : List Nat → Bool) (ws : List (List Nat)) (i : Nat) : Nat := i + ((ws.drop i).takeWhile p).length
theorem runL_ge (p : List Nat → Bool) (ws : List (List Nat)) (i : Nat) : i ≤ runL p ws i := Nat.le_add_right _ _
theorem runL_le {p : List Nat → Bool} {ws : List (List Nat)} {i : Nat} (h : i ≤ ws.length) : runL p ws i ≤ ws.length := by
  have := (List.takeWhile_sublist (l := ws.drop i) p).length_le
  rw [List.length_drop] at this
  unfold runL
  omega
theorem runL_end {p : List Nat → Bool} {ws : List (List Nat)} {i : Nat} (h : ws.length ≤ i) : runL p ws i = i := by
  unfold runL
  rw [List.drop_eq_nil_of_le h]
  rfl
theorem runL_stop {p : List Nat → Bool} {ws : List (List Nat)} {i : Nat} (h : i < ws.length) (hp : p ws[i] = false) : runL p ws i = i := by
  unfold runL
  rw [List.drop_eq_getElem_cons h, List.takeWhile_cons, hp]
  rfl
theorem runL_step {p : List Nat → Bool} {ws : List (List Nat)} {i : Nat} (h : i < ws.length) (hp : p ws[i] = true) : runL p ws i = runL p ws (i + 1) := by
  unfold runL
  rw [List.drop_eq_getElem_cons h, List.takeWhile_cons, hp, if_pos rfl, List.length_cons]
  omega
def pS (l : List Nat) : Bool := bg (mk l) "..."
def pE (l : List Nat) : Bool := !isBlank l && !bg (mk l) ">>>"
def sp_behind_source : Sp := fun vs H Q _ => ∃ (p : Addr) (ws : List (List Nat)) (i : Nat), vs = [.ref p, .int (i : Int)] ∧ H p = some (rowsV ws) ∧ Short ws ∧ Q (.int (runL pS ws i : Nat)) H
theorem ok_behind_source {f : Addr} {fd : FuncData} {dvs : List V} (F : Fn K "behind_source" s_behind_source dvs f fd) (O_begins : Own P w K mg base "begins" 1 ["line", "prompt"] [] (sp_begins)) (m_len : mg "len" = none) {t_FURTHER : Tok} (c_FURTHER : mg "FURTHER" = some (.str "..." t_FURTHER)) : FnOk P w K mg base CX0 2 f fd ["lines", "at"] (sp_behind_source) := by
  refine Fn.okN F sc_behind_source (fun vs H Q E h => ?_) (fun cdv A outer s H vs Q E hr h => ?_)
  · obtain ⟨_, _, _, rfl, _⟩ := h
    rfl
  · obtain ⟨p, ws, i, rfl, hp, hs, k⟩ := h
    refine ⟨_, (pss_cons (ps_while PassesOwn.never (PW.pt (pw_and (pt_cmpR op_lt (pv 1) (pe_callB call_len_seq (by rfl) m_len PySem.boot_len (pa_cons (pv 0) pa_nil)) (nomark _)) (pw_and1 (pt_val (pe_own O_begins (hr.mono (by decide)) (by rfl) (pa_cons (pe_ix ix_list (pv 0) (pv 1) (fun _ _ => rfl)) (pa_cons (pe_glob (v := .str "...") rfl c_FURTHER ⟨_, rfl⟩) pa_nil)))))))
          (pss_one (ps_set (i := 1) sc_behind_source.nd rfl (.inl rfl) (pe_op op_add (pv 1) pe_int))))
      (pss_one (ps_ret (pv 1)))), ?_⟩
    have hlen : ((ws.map mk).map V.str).length = ws.length := by rw [List.length_map, List.length_map]
    refine while_by (fun σ H1 => ∃ j : Nat, σ = [some (.ref p), some (.int (j : Int))] ∧ H = H1 ∧ runL pS ws j = runL pS ws i) (fun σ _ => match σ with | [_, some (.int z)] => (ws.length - z).toNat | _ => 0) ⟨i, rfl, rfl, rfl⟩ ?_ (mo_and (mo_test (mo_op mo_I0 mo_var (mo_cb (fun xs H Q Q' i ⟨p, ys, e1, e2, q⟩ => ⟨p, ys, e1, e2, i _ _ q⟩) (mo_cons mo_var mo_nil)))) (mo_B (mo_call (fun vs H Q Q' E i ⟨x, y, e, l, q⟩ => ⟨x, y, e, l, i _ _ q⟩) (mo_cons (mo_op mo_ix mo_var mo_var) (mo_cons mo_const mo_nil)))))
    rintro σ H1 ⟨j, rfl, rfl, hj⟩
    refine ⟨.int (j : Int), rfl, .ref p, rfl, p, _, rfl, .inl (SqL.of hp), _, _, rfl, rfl, _, rfl, ?_⟩
    rw [hlen]
    rcases Nat.lt_or_ge j ws.length with hi | hi
    · have hg : ((ws.map mk).map V.str)[j]? = some (.str (mk ws[j])) := by
        rw [List.getElem?_map, List.getElem?_map, List.getElem?_eq_getElem hi]
        rfl
      rw [decide_eq_true (by omega)]
      refine iteT ⟨.ref p, rfl, .int (j : Int), rfl, p, _, _, .str (mk ws[j]), rfl, rfl, SqL.of hp, atI_nat hg, mk ws[j], "...", rfl, by rw [mk_len]; exact Nat.le_trans (hs.2 _ (List.getElem_mem _)) (by decide), _, rfl, ?_⟩
      cases hb : bg (mk ws[j]) "..." with
      | false =>
        rw [← hj, runL_stop hi hb] at k
        exact iteF ⟨_, rfl, k⟩
      | true =>
        refine iteT ⟨_, rfl, _, _, rfl, rfl, ⟨j + 1, rfl, rfl, by rw [← hj, runL_step hi hb]⟩, ?_⟩
        show ((ws.length : Int) - ((j : Int) + 1)).toNat < ((ws.length : Int) - (j : Int)).toNat
        omega
    · rw [decide_eq_false (by omega)]
      rw [← hj, runL_end hi] at k
      exact iteF ⟨_, rfl, k⟩
def sp_behind_expected : Sp := fun vs H Q _ => ∃ (p : Addr) (ws : List (List Nat)) (i : Nat), vs = [.ref p, .int (i : Int)] ∧ H p = some (rowsV ws) ∧ Short ws ∧ Q (.int (runL pE ws i : Nat)) H
theorem ok_behind_expected {f : Addr} {fd : FuncData} {dvs : List V} (F : Fn K "behind_expected" s_behind_expected dvs f fd) (O_is_blank : Own P w K mg base "is_blank" 1 ["line"] [] (sp_is_blank)) (O_begins : Own P w K mg base "begins" 1 ["line", "prompt"] [] (sp_begins)) (m_len : mg "len" = none) {t_PROMPT : Tok} (c_PROMPT : mg "PROMPT" = some (.str ">>>" t_PROMPT)) : FnOk P w K mg base CX0 2 f fd ["lines", "at"] (sp_behind_expected) := by
  refine Fn.okN F sc_behind_expected (fun vs H Q E h => ?_) (fun cdv A outer s H vs Q E hr h => ?_)
  · obtain ⟨_, _, _, rfl, _⟩ := h
    rfl
  · obtain ⟨p, ws, i, rfl, hp, hs, k⟩ := h
    refine ⟨_, (pss_cons (ps_while PassesOwn.never (PW.pt (pw_and (pt_cmpR op_lt (pv 1) (pe_callB call_len_seq (by rfl) m_len PySem.boot_len (pa_cons (pv 0) pa_nil)) (nomark _)) (pw_and (pt_not (pt_val (pe_own O_is_blank (hr.mono (by decide)) (by rfl) (pa_cons (pe_ix ix_list (pv 0) (pv 1) (fun _ _ => rfl)) pa_nil)))) (pw_and1 (pt_not (pt_val (pe_own O_begins (hr.mono (by decide)) (by rfl) (pa_cons (pe_ix ix_list (pv 0) (pv 1) (fun _ _ => rfl)) (pa_cons (pe_glob (v := .str ">>>") rfl c_PROMPT ⟨_, rfl⟩) pa_nil)))))))))
          (pss_one (ps_set (i := 1) sc_behind_expected.nd rfl (.inl rfl) (pe_op op_add (pv 1) pe_int))))
      (pss_one (ps_ret (pv 1)))), ?_⟩
    have hlen : ((ws.map mk).map V.str).length = ws.length := by rw [List.length_map, List.length_map]
    refine while_by (fun σ H1 => ∃ j : Nat, σ = [some (.ref p), some (.int (j : Int))] ∧ H = H1 ∧ runL pE ws j = runL pE ws i) (fun σ _ => match σ with | [_, some (.int z)] => (ws.length - z).toNat | _ => 0) ⟨i, rfl, rfl, rfl⟩ ?_ (mo_and (mo_test (mo_op mo_I0 mo_var (mo_cb (fun xs H Q Q' i ⟨p, ys, e1, e2, q⟩ => ⟨p, ys, e1, e2, i _ _ q⟩) (mo_cons mo_var mo_nil)))) (mo_and (mo_not (mo_B (mo_call (fun vs H Q Q' E i ⟨x, e, l, q⟩ => ⟨x, e, l, i _ _ q⟩) (mo_cons (mo_op mo_ix mo_var mo_var) mo_nil)))) (mo_not (mo_B (mo_call (fun vs H Q Q' E i ⟨x, y, e, l, q⟩ => ⟨x, y, e, l, i _ _ q⟩) (mo_cons (mo_op mo_ix mo_var mo_var) (mo_cons mo_const mo_nil)))))))
    rintro σ H1 ⟨j, rfl, rfl, hj⟩
    refine ⟨.int (j : Int), rfl, .ref p, rfl, p, _, rfl, .inl (SqL.of hp), _, _, rfl, rfl, _, rfl, ?_⟩
    rw [hlen]
    rcases Nat.lt_or_ge j ws.length with hi | hi
    · have hg : ((ws.map mk).map V.str)[j]? = some (.str (mk ws[j])) := by
        rw [List.getElem?_map, List.getElem?_map, List.getElem?_eq_getElem hi]
        rfl
      have lm : (mk ws[j]).length ≤ 10000 := by rw [mk_len]; exact hs.2 _ (List.getElem_mem _)
      rw [decide_eq_true (by omega)]
      refine iteT ⟨.ref p, rfl, .int (j : Int), rfl, p, _, _, .str (mk ws[j]), rfl, rfl, SqL.of hp, atI_nat hg, mk ws[j], rfl, by omega, _, rfl, ?_⟩
      show ite ((!isBlank ws[j]) = true) _ _
      cases hb : isBlank ws[j] with
      | true =>
        rw [← hj, runL_stop hi (by unfold pE; rw [hb]; rfl)] at k
        exact iteF (iteF ⟨_, rfl, k⟩)
      | false =>
        refine iteT ⟨.ref p, rfl, .int (j : Int), rfl, p, _, _, .str (mk ws[j]), rfl, rfl, SqL.of hp, atI_nat hg, mk ws[j], ">>>", rfl, by omega, _, rfl, ?_⟩
        cases hc : bg (mk ws[j]) ">>>" with
        | true =>
          rw [← hj, runL_stop hi (by unfold pE; rw [hc, Bool.and_comm]; rfl)] at k
          exact iteF ⟨_, rfl, k⟩
        | false =>
          refine iteT ⟨_, rfl, _, _, rfl, rfl, ⟨j + 1, rfl, rfl, by rw [← hj, runL_step hi (by unfold pE; rw [hb, hc]; rfl)]⟩, ?_⟩
          show ((ws.length : Int) - ((j : Int) + 1)).toNat < ((ws.length : Int) - (j : Int)).toNat
          omega
    · rw [decide_eq_false (by omega)]
      rw [← hj, runL_end hi] at k
      exact iteF (iteF ⟨_, rfl, k⟩)
/-- the cuts of lines, from a place on -/
def cutsL (ws : List (List Nat)) (i : Nat) : List (Nat × Nat × Nat) :=
  if h : i < ws.length then
    if bg (mk ws[i]) ">>>" = true then (i, runL pS ws (i + 1), runL pE ws (runL pS ws (i + 1))) :: cutsL ws (runL pE ws (runL pS ws (i + 1)))
    else cutsL ws (i + 1)
  else []
termination_by ws.length - i
decreasing_by
  · have h1 := runL_ge pS ws (i + 1)
    have h2 := runL_ge pE ws (runL pS ws (i + 1))
    omega
  · omega
theorem cutsL_len (ws : List (List Nat)) : ∀ (f i : Nat), ws.length - i ≤ f → (cutsL ws i).length ≤ ws.length - i
  | 0, i, h => by
    rw [cutsL, dif_neg (by omega)]
    exact Nat.zero_le _
  | f + 1, i, h => by
    rw [cutsL]
    split
    · split
      · have h1 := runL_ge pS ws (i + 1)
        have h2 := runL_ge pE ws (runL pS ws (i + 1))
        have ih := cutsL_len ws f (runL pE ws (runL pS ws (i + 1))) (by omega)
        rw [List.length_cons]
        omega
      · have ih := cutsL_len ws f (i + 1) (by omega)
        omega
    · exact Nat.zero_le _
def cutV3 (c : Nat × Nat × Nat) : HO := .tup [.int (c.1 : Int), .int (c.2.1 : Int), .int (c.2.2 : Int)]
/-- triples that stand at addresses -/
def CutsAt (H : Hp) : List Addr → List (Nat × Nat × Nat) → Prop
  | [], [] => True
  | t :: ts, c :: cs => H t = some (cutV3 c) ∧ CutsAt H ts cs
  | _, _ => False
theorem CutsAt.same {H H' : Hp} (s : Same H H') : ∀ {ts : List Addr} {cs : List (Nat × Nat × Nat)}, CutsAt H ts cs → CutsAt H' ts cs
  | [], [], _ => trivial
  | _ :: _, _ :: _, h => ⟨s _ _ h.1, CutsAt.same s h.2⟩
  | [], _ :: _, h => h
  | _ :: _, [], h => h
theorem CutsAt.upd {H : Hp} {C : Addr} {xs : List V} {o : HO} (e : H C = some (.lst xs)) : ∀ {ts : List Addr} {cs : List (Nat × Nat × Nat)}, CutsAt H ts cs → CutsAt (L2.upd H C o) ts cs
  | [], [], _ => trivial
  | t :: _, _ :: _, h => ⟨by
    have h1 : H t = some (cutV3 _) := h.1
    rw [upd_ne (fun z => by rw [z, e] at h1; cases h1)]
    exact h.1, CutsAt.upd e h.2⟩
  | [], _ :: _, h => h
  | _ :: _, [], h => h
theorem CutsAt.snoc {H : Hp} {t : Addr} {c : Nat × Nat × Nat} (e : H t = some (cutV3 c)) : ∀ {ts : List Addr} {cs : List (Nat × Nat × Nat)}, CutsAt H ts cs → CutsAt H (ts ++ [t]) (cs ++ [c])
  | [], [], _ => ⟨e, trivial⟩
  | _ :: _, _ :: _, h => ⟨h.1, CutsAt.snoc e h.2⟩
  | [], _ :: _, h => h.elim
  | _ :: _, [], h => h.elim
theorem CutsAt.get {H : Hp} : ∀ {ts : List Addr} {cs : List (Nat × Nat × Nat)} {i : Nat} {t : Addr}, CutsAt H ts cs → ts[i]? = some t → ∃ c, cs[i]? = some c ∧ H t = some (cutV3 c)
  | [], _, i, t, _, h => by cases h
  | _ :: _, [], _, _, h, _ => h.elim
  | a :: ts, c :: cs, 0, t, h, e => by
    cases e
    exact ⟨c, rfl, h.1⟩
  | a :: ts, c :: cs, i + 1, t, h, e => by
    obtain ⟨d, h1, h2⟩ := CutsAt.get (i := i) h.2 e
    exact ⟨d, h1, h2⟩
theorem CutsAt.len {H : Hp} : ∀ {ts : List Addr} {cs : List (Nat × Nat × Nat)}, CutsAt H ts cs → ts.length = cs.length
  | [], [], _ => rfl
  | _ :: _, _ :: _, h => congrArg Nat.succ (CutsAt.len h.2)
  | [], _ :: _, h => h.elim
  | _ :: _, [], h => h.elim
def sp_cuts_of : Sp := fun vs H Q _ => ∃ (p : Addr) (ws : List (List Nat)), vs = [.ref p] ∧ H p = some (rowsV ws) ∧ Short ws ∧
  ∀ (H' : Hp) (q : Addr) (ts : List Addr), Same H H' → H q = none → H' q = some (.lst (ts.map V.ref)) → CutsAt H' ts (cutsL ws 0) → Q (.ref q) H'
theorem ok_cuts_of {f : Addr} {fd : FuncData} {dvs : List V} (F : Fn K "cuts_of" s_cuts_of dvs f fd) (O_begins : Own P w K mg base "begins" 1 ["line", "prompt"] [] (sp_begins)) (O_behind_source : Own P w K mg base "behind_source" 2 ["lines", "at"] [] (sp_behind_source)) (O_behind_expected : Own P w K mg base "behind_expected" 2 ["lines", "at"] [] (sp_behind_expected)) (m_len : mg "len" = none) {t_PROMPT : Tok} (c_PROMPT : mg "PROMPT" = some (.str ">>>" t_PROMPT)) : FnOk P w K mg base CX0 3 f fd ["lines"] (sp_cuts_of) := by
  refine Fn.okN F sc_cuts_of (fun vs H Q E h => ?_) (fun cdv A outer s H vs Q E hr h => ?_)
  · obtain ⟨_, _, rfl, _⟩ := h
    rfl
  · obtain ⟨p, ws, rfl, hp, hs, k⟩ := h
    refine ⟨_, (pss_cons (ps_set (i := 1) sc_cuts_of.nd rfl (.inl rfl) (pe_lst pa_nil))
      (pss_cons (ps_set (i := 2) sc_cuts_of.nd rfl (.inl rfl) pe_int)
      (pss_cons (ps_while PassesOwn.never (pt_cmpR op_lt (pv 2) (pe_callB call_len_seq (by rfl) m_len PySem.boot_len (pa_cons (pv 0) pa_nil)) (nomark _))
          (pss_one (ps_if (pt_val (pe_own O_begins (hr.mono (by decide)) (by rfl) (pa_cons (pe_ix ix_list (pv 0) (pv 2) (fun _ _ => rfl)) (pa_cons (pe_glob (v := .str ">>>") rfl c_PROMPT ⟨_, rfl⟩) pa_nil))))
                (pss_cons (ps_set (i := 3) sc_cuts_of.nd rfl (.inl rfl) (pe_own O_behind_source (hr.mono (by decide)) (by rfl) (pa_cons (pv 0) (pa_cons (pe_op op_add (pv 2) pe_int) pa_nil))))
                  (pss_cons (ps_set (i := 4) sc_cuts_of.nd rfl (.inl rfl) (pe_own O_behind_expected (hr.mono (by decide)) (by rfl) (pa_cons (pv 0) (pa_cons (pv 3) pa_nil))))
                  (pss_cons (ps_expr (pe_bm PySem.F.plainAttrs_list PySem.F.slot_list_append PySem.F.type_list_append mt_append (pv 1) (pa_cons (pe_tup (pa_cons (pv 2) (pa_cons (pv 3) (pa_cons (pv 4) pa_nil)))) pa_nil)))
                  (pss_one (ps_set (i := 2) sc_cuts_of.nd rfl (.inl rfl) (pv 4))))))
                (pss_one (ps_set (i := 2) sc_cuts_of.nd rfl (.inl rfl) (pe_op op_add (pv 2) pe_int))))))
      (pss_one (ps_ret (pv 1)))))), ?_⟩
    have hlen : ((ws.map mk).map V.str).length = ws.length := by rw [List.length_map, List.length_map]
    refine ⟨by show 0 ≤ sizeLine; decide, fun C nC => ?_⟩
    have sC := same_new (o := .lst []) nC
    have pC : p ≠ C := ne_of_none hp nC
    refine while_by (fun σ H1 => ∃ (i : Nat) (v3 v4 : Option V) (ts : List Addr) (cs : List (Nat × Nat × Nat)), σ = [some (.ref p), some (.ref C), some (.int (i : Int)), v3, v4] ∧ Same H H1 ∧ H1 C = some (.lst (ts.map V.ref)) ∧ CutsAt H1 ts cs ∧ cs ++ cutsL ws i = cutsL ws 0 ∧ cs.length ≤ i)
      (fun σ _ => match σ with | [_, _, some (.int z), _, _] => (ws.length - z).toNat | _ => 0) ⟨0, _, _, [], [], rfl, sC, upd_same, trivial, rfl, Nat.le_refl _⟩ ?_ (mo_test (mo_op mo_I0 mo_var (mo_cb (fun xs H Q Q' i ⟨p, ys, e1, e2, q⟩ => ⟨p, ys, e1, e2, i _ _ q⟩) (mo_cons mo_var mo_nil))))
    rintro σ H1 ⟨i, v3, v4, ts, cs, rfl, s1, eC, hc, he, hcl⟩
    have hp1 := s1 _ _ hp
    refine ⟨.int (i : Int), rfl, .ref p, rfl, p, _, rfl, .inl (SqL.of hp1), _, _, rfl, rfl, _, rfl, ?_⟩
    rw [hlen]
    rcases Nat.lt_or_ge i ws.length with hi | hi
    · have hg : ((ws.map mk).map V.str)[i]? = some (.str (mk ws[i])) := by
        rw [List.getElem?_map, List.getElem?_map, List.getElem?_eq_getElem hi]
        rfl
      rw [decide_eq_true (by omega)]
      refine iteT ⟨.ref p, rfl, .int (i : Int), rfl, p, _, _, .str (mk ws[i]), rfl, rfl, SqL.of hp1, atI_nat hg, mk ws[i], ">>>", rfl, by rw [mk_len]; exact Nat.le_trans (hs.2 _ (List.getElem_mem _)) (by decide), _, rfl, ?_⟩
      cases hb : bg (mk ws[i]) ">>>" with
      | true =>
        have h1 := runL_ge pS ws (i + 1)
        have h2 := runL_ge pE ws (runL pS ws (i + 1))
        have hu : cutsL ws i = (i, runL pS ws (i + 1), runL pE ws (runL pS ws (i + 1))) :: cutsL ws (runL pE ws (runL pS ws (i + 1))) := by
          rw [cutsL, dif_pos hi, if_pos hb]
        have h3 : runL pE ws (runL pS ws (i + 1)) ≤ ws.length := runL_le (runL_le hi)
        refine iteT ⟨.ref p, rfl, .int (i : Int), rfl, _, _, rfl, rfl, p, ws, i + 1, rfl, hp1, hs, ?_⟩
        generalize runL pS ws (i + 1) = m at h1 h2 hu h3 ⊢
        refine ⟨.ref p, rfl, .int (m : Int), rfl, p, ws, m, rfl, hp1, hs, ?_⟩
        generalize runL pE ws m = e at h2 hu h3 ⊢
        refine ⟨.ref C, rfl, .inl ⟨rfl, _, SqL.of eC⟩, .int (i : Int), rfl, .int (m : Int), rfl, .int (e : Int), rfl, by show 3 ≤ sizeLine; decide, fun T nT => ?_⟩
        have sT := same_new (o := .tup [.int (i : Int), .int (m : Int), .int (e : Int)]) nT
        have CT : C ≠ T := ne_of_none eC nT
        refine ⟨C, ts.map V.ref, _, rfl, rfl, sT _ _ eC, ?_, _, rfl, ⟨e, _, _, ts ++ [T], cs ++ [(i, m, e)], rfl, fun b o eb => ?_, ?_, ?_, by rw [List.append_assoc]; show cs ++ (i, m, e) :: cutsL ws e = _; rw [← hu]; exact he, by rw [List.length_append]; show cs.length + 1 ≤ _; omega⟩, ?_⟩
        · rw [List.length_map, hc.len]
          exact Nat.lt_of_le_of_lt (show cs.length ≤ 10000 by have := hs.1; omega) (by decide)
        · rw [upd_ne (ne_of_none eb nC)]
          exact sT _ _ (s1 _ _ eb)
        · rw [upd_same, List.map_append]
          rfl
        · refine CutsAt.upd (sT _ _ eC) ?_
          exact CutsAt.snoc (c := (i, m, e)) upd_same (hc.same sT)
        · show ((ws.length : Int) - (e : Int)).toNat < ((ws.length : Int) - (i : Int)).toNat
          omega
      | false =>
        have hu : cutsL ws i = cutsL ws (i + 1) := by
          rw [cutsL, dif_pos hi, if_neg (by rw [hb]; decide)]
        refine iteF ⟨_, rfl, _, _, rfl, rfl, ⟨i + 1, _, _, ts, cs, rfl, s1, eC, hc, by rw [← hu]; exact he, by omega⟩, ?_⟩
        show ((ws.length : Int) - ((i : Int) + 1)).toNat < ((ws.length : Int) - (i : Int)).toNat
        omega
    · rw [decide_eq_false (by omega)]
      have hu : cutsL ws i = [] := by
        rw [cutsL, dif_neg (by omega)]
      rw [hu, List.append_nil] at he
      rw [he] at hc
      exact iteF ⟨.ref C, rfl, k _ C ts s1 nC eC hc⟩
/-- the first row of some that is not right -/
def firstB (ok : List Nat → Bool) (ws : List (List Nat)) : Nat → Nat → Option Nat
  | _, 0 => none
  | a, n + 1 => if ok (ws.getD a []) = true then firstB ok ws (a + 1) n else some a
theorem firstB_skip {ok : List Nat → Bool} {ws : List (List Nat)} : ∀ (i a n : Nat), (∀ k, a ≤ k → k < a + i → ok (ws.getD k []) = true) → i ≤ n → firstB ok ws a n = firstB ok ws (a + i) (n - i)
  | 0, _, _, _, _ => rfl
  | i + 1, a, 0, _, h => by omega
  | i + 1, a, n + 1, hk, h => by
    have ih := firstB_skip (ok := ok) (ws := ws) i (a + 1) n (fun k h1 h2 => hk k (by omega) (by omega)) (by omega)
    show (if ok (ws.getD a []) = true then firstB ok ws (a + 1) n else some a) = _
    rw [if_pos (hk a (Nat.le_refl _) (by omega)), ih, show a + 1 + i = a + (i + 1) by omega, show n - i = n + 1 - (i + 1) by omega]
theorem firstB_none {ok : List Nat → Bool} {ws : List (List Nat)} {a n : Nat} (h : ∀ k, a ≤ k → k < a + n → ok (ws.getD k []) = true) : firstB ok ws a n = none := by
  rw [firstB_skip n a n h (Nat.le_refl _), Nat.sub_self]
  rfl
theorem firstB_some {ok : List Nat → Bool} {ws : List (List Nat)} {a n i : Nat} (h : ∀ k, a ≤ k → k < a + i → ok (ws.getD k []) = true) (hi : i < n) (hb : ok (ws.getD (a + i) []) = false) : firstB ok ws a n = some (a + i) := by
  rw [firstB_skip i a n h (by omega), show n - i = (n - i - 1) + 1 by omega]
  show (if ok (ws.getD (a + i) []) = true then _ else some (a + i)) = _
  rw [hb, if_neg Bool.false_ne_true]
theorem getD_some {ws : List (List Nat)} {j : Nat} (h : j < ws.length) : ws.getD j [] = ws[j] := by
  rw [List.getD_eq_getElem?_getD, List.getElem?_eq_getElem h]
  rfl
/-- what a suite finds of an error: its line, the reason, what was found -/
def xdE (n : Int) (r f : Str) : HO := .xd [("found", .str f), ("reason", .str r), ("line", .int n)]
def Raises (B : Addr) (H : Hp) (E : XK) (n : Int) (r f : Str) : Prop := ∀ (H' : Hp) (d : Addr), Same H H' → H d = none → H' d = some (xdE n r f) → E (.ref B) (some d) H'
def sp_refuse_wrong_indents (B : Addr) : Sp := fun vs H Q E => ∃ (p : Addr) (ws : List (List Nat)) (a b : Nat) (y : Str), vs = [.ref p, .int (a : Int), .int (b : Int), .str y] ∧ H p = some (rowsV ws) ∧ a ≤ 100000 ∧ b ≤ ws.length ∧ Short ws ∧ (firstB (fun l => Txt.startswith (mk l) y) ws a (b - a) = none → Q .non H) ∧
  ∀ j, firstB (fun l => Txt.startswith (mk l) y) ws a (b - a) = some j → Raises B H E ((j : Int) + 1) "indent" (mk (ws.getD j []))
theorem ok_refuse_wrong_indents {f : Addr} {fd : FuncData} {dvs : List V} (F : Fn K "refuse_wrong_indents" s_refuse_wrong_indents dvs f fd) {C_BadText : Addr} (T_BadText : Err_BadText K mg C_BadText) (O_BadText_init : OwnE P w K mg base "BadText" C_BadText 2 ["self", "line", "reason", "found"] (sp_BadText_init C_BadText)) (m_range : mg "range" = none) : FnOk P w K mg base (L2.CX P w) 4 f fd ["lines", "start", "end", "ahead"] (sp_refuse_wrong_indents C_BadText) := by
  refine Fn.okX F sc_refuse_wrong_indents (fun vs H Q E h => ?_) (fun cdv A outer s H vs Q E hr h => ?_)
  · obtain ⟨_, _, _, _, _, rfl, _⟩ := h
    rfl
  · obtain ⟨p, ws, a, b, y, rfl, hp, ha, hb, hs, k, kE⟩ := h
    refine ⟨_, (pss_one (ps_for (passes_of rfl) rfl (pi_range2 rfl m_range (pa_cons (pv 1) (pa_cons (pv 2) pa_nil))) (pg_name (i := 4) sc_refuse_wrong_indents.nd rfl (.inl rfl))
          (pss_one (ps_if (pt_not (pt_val (pe_m1 PySem.F.slot_str_startswith PySem.F.type_str_startswith mt_startswith (pe_ix ix_list (pv 0) (pv 4) (fun _ _ => rfl)) (pv 3))))
                (pss_one (ps_raise rfl (takes_of rfl rfl rfl rfl) (pmk_E O_BadText_init (hr.mono (by decide)) (by rfl) (pa_cons (pe_op op_add (pv 4) pe_int) (pa_cons pe_str (pa_cons (pe_ix ix_list (pv 0) (pv 4) (fun _ _ => rfl)) pa_nil))))))
                pss_nil)))), ?_⟩
    have h1 := hs.1
    refine ⟨.int (a : Int), rfl, .int (b : Int), rfl, a, b, rfl, ⟨by omega, by omega, by omega, by omega⟩, for_range (lo := (a : Int)) (n := ((b : Int) - (a : Int)).toNat) (fun i σ H1 => ∃ v4, σ = [some (.ref p), some (.int (a : Int)), some (.int (b : Int)), some (.str y), v4] ∧ H1 = H ∧ ∀ k, a ≤ k → k < a + i → Txt.startswith (mk (ws.getD k [])) y = true) ⟨_, rfl, rfl, fun k h1 h2 => by omega⟩ ?_ ?_⟩
    · rintro i σ H1 hi ⟨v4, rfl, rfl, ok⟩
      have hj : a + i < ws.length := by omega
      have hgj : atI ((ws.map mk).map V.str) ((a : Int) + (i : Nat)) = some (.str (mk ws[a + i])) := by
        rw [show ((a : Int) + (i : Nat)) = ((a + i : Nat) : Int) by omega]
        exact atI_nat (by rw [List.getElem?_map, List.getElem?_map, List.getElem?_eq_getElem hj]; rfl)
      refine ⟨.ref p, rfl, .int ((a : Int) + (i : Nat)), rfl, p, _, _, .str (mk ws[a + i]), rfl, rfl, SqL.of hp, hgj, ⟨_, rfl⟩, .str y, rfl, mk ws[a + i], y, rfl, rfl, _, rfl, ?_⟩
      cases hst : Txt.startswith (mk ws[a + i]) y with
      | true =>
        refine iteF ⟨_, rfl, rfl, fun k h1 h2 => ?_⟩
        by_cases hk : k = a + i
        · rw [hk, getD_some hj]
          exact hst
        · exact ok k h1 (by omega)
      | false =>
        have hf := firstB_some (ok := fun l => Txt.startswith (mk l) y) (ws := ws) (a := a) (n := b - a) (i := i) ok (by omega) (by
          show Txt.startswith (mk (ws.getD (a + i) [])) y = false
          rw [getD_some hj]
          exact hst)
        refine iteT ⟨.int ((a : Int) + (i : Nat)), rfl, _, _, rfl, rfl, .ref p, rfl, .int ((a : Int) + (i : Nat)), rfl, p, _, _, .str (mk ws[a + i]), rfl, rfl, SqL.of hp, hgj, by show 3 ≤ 1000; decide, fun x nx => ⟨x, _, "indent", mk ws[a + i], rfl, upd_same, fun H6 d k1 nd nda k2 k3 => ⟨rfl, d, _, k2, k3, ?_, ?_⟩⟩⟩
        · rw [← upd_ne (H := H1) (a := x) (o := exo x C_BadText none) nda]
          exact nd
        · have nd5 : H1 d = none := by
            rw [← upd_ne (H := H1) (a := x) (o := exo x C_BadText none) nda]
            exact nd
          refine kE (a + i) hf _ d (fun b o e => ?_) nd5 ?_
          · have ba : b ≠ x := ne_of_none e nx
            rw [upd_ne (ne_of_none e nd5), del_ne ba]
            exact k1 _ _ (by rw [upd_ne ba]; exact e) ba
          · rw [upd_same, getD_some hj]
            unfold xdE
            push_cast
            rfl
    · rintro σ H1 ⟨v4, rfl, rfl, ok⟩
      refine k (firstB_none fun k h1 h2 => ?_)
      have := ok k h1 (by omega)
      exact this
theorem mulOk_sp {n : Nat} (h : n ≤ 10000) : MulOk " " (n : Int) := by
  have l1 : (" " : Str).length = 1 := rfl
  refine ⟨?_, fun h1 _ => ?_, fun h1 _ => ?_⟩
  · rw [decide_eq_false (by omega), decide_eq_false (by omega)]
    rfl
  · rw [l1]
    have h2 : (0 : Int) < (n : Int) := by omega
    have h3 : ((1 : Nat) : Int) ≤ (2 ^ 63 - 1) / (n : Int) := (Int.le_ediv_iff_mul_le h2).mpr (by omega)
    omega
  · rw [l1]
    unfold Builtin.Str.tooLong
    have hz : (10000 : Nat) < sizeLine := by decide
    rw [decide_eq_false (by omega)]
theorem mul_len (n : Nat) : (Txt.mul " " (n : Int)).length ≤ n + 1 := by
  have e := PyProof.Rows.len_mul " " (n : Int)
  have l1 : ((" " : Str).length : Int) = 1 := rfl
  rw [decide_eq_false (by omega), if_neg Bool.false_ne_true, l1] at e
  omega
/-- a cut that lies within the rows -/
structure WkCut (ws : List (List Nat)) (a m e : Nat) : Prop where
  am : a < m
  me : m ≤ e
  ew : e ≤ ws.length
def blOk (n : Nat) (l : List Nat) : Bool := inV (.str (cutS (mk l) (some ((n : Int) + (3 : Int))) (some ((n : Int) + (3 : Int) + 1)))) [.str "", .str " "]
/-- the first row of an example that is wrong by its place, the reason, what was found -/
def badR (ws : List (List Nat)) (a m e n : Nat) : Option (Nat × Str × Str) := match firstB (blOk n) ws a (m - a) with
  | some j => some (j, "blank", cutS (mk (ws.getD j [])) (some (n : Int)) (some ((n : Int) + (3 : Int))))
  | none => match firstB (fun l => Txt.startswith (mk l) (Txt.mul " " (n : Int) ++ ".")) ws (a + 1) (m - (a + 1)) with
    | some j => some (j, "indent", mk (ws.getD j []))
    | none => match firstB (fun l => Txt.startswith (mk l) (Txt.mul " " (n : Int))) ws m (e - m) with
      | some j => some (j, "indent", mk (ws.getD j []))
      | none => none
def sp_refuse_wrong_lines (B : Addr) : Sp := fun vs H Q E => ∃ (p t : Addr) (ws : List (List Nat)) (a m e n : Nat), vs = [.ref p, .ref t] ∧ H p = some (rowsV ws) ∧ H t = some (cutV3 (a, m, e)) ∧ Short ws ∧ WkCut ws a m e ∧ (∀ l, ws[a]? = some l → lead l = n) ∧ (badR ws a m e n = none → ∀ H', Same H H' → Q .non H') ∧
  ∀ j r f, badR ws a m e n = some (j, r, f) → Raises B H E ((j : Int) + 1) r f
theorem ok_refuse_wrong_lines {f : Addr} {fd : FuncData} {dvs : List V} (F : Fn K "refuse_wrong_lines" s_refuse_wrong_lines dvs f fd) {C_BadText : Addr} (T_BadText : Err_BadText K mg C_BadText) (O_indent_of : Own P w K mg base "indent_of" 1 ["line"] [] (sp_indent_of)) (O_BadText_init : OwnE P w K mg base "BadText" C_BadText 2 ["self", "line", "reason", "found"] (sp_BadText_init C_BadText)) (O_refuse_wrong_indents : OwnX P w K mg base "refuse_wrong_indents" 4 ["lines", "start", "end", "ahead"] [] (sp_refuse_wrong_indents C_BadText)) (m_len : mg "len" = none) (m_range : mg "range" = none) {t_PROMPT : Tok} (c_PROMPT : mg "PROMPT" = some (.str ">>>" t_PROMPT)) : FnOk P w K mg base (L2.CX P w) 5 f fd ["lines", "cut"] (sp_refuse_wrong_lines C_BadText) := by
  refine Fn.okX F sc_refuse_wrong_lines (fun vs H Q E h => ?_) (fun cdv A outer s H vs Q E hr h => ?_)
  · obtain ⟨_, _, _, _, _, _, _, rfl, _⟩ := h
    rfl
  · obtain ⟨p, t, ws, a, m, e, n, rfl, hp, ht, hs, rc, hn, k, kE⟩ := h
    refine ⟨_, (pss_cons (ps_asg (pv 1) (pg_tup rfl (pgs_cons (pg_name (i := 2) sc_refuse_wrong_lines.nd rfl (.inl rfl)) (pgs_cons (pg_name (i := 3) sc_refuse_wrong_lines.nd rfl (.inl rfl)) (pgs_cons (pg_name (i := 4) sc_refuse_wrong_lines.nd rfl (.inl rfl)) pgs_nil)))))
      (pss_cons (ps_set (i := 5) sc_refuse_wrong_lines.nd rfl (.inl rfl) (pe_own O_indent_of (hr.mono (by decide)) (by rfl) (pa_cons (pe_ix ix_list (pv 0) (pv 2) (fun _ _ => rfl)) pa_nil)))
      (pss_cons (ps_set (i := 6) sc_refuse_wrong_lines.nd rfl (.inl rfl) (pe_op op_add (pv 5) (pe_callB call_len_str (by rfl) m_len PySem.boot_len (pa_cons (pe_glob (v := .str ">>>") rfl c_PROMPT ⟨_, rfl⟩) pa_nil))))
      (pss_cons (ps_for (passes_of rfl) rfl (pi_range2 rfl m_range (pa_cons (pv 2) (pa_cons (pv 3) pa_nil))) (pg_name (i := 7) sc_refuse_wrong_lines.nd rfl (.inl rfl))
          (pss_one (ps_if (pt_cmpR op_notIn_seq (pe_slice sl_str (pe_ix ix_list (pv 0) (pv 7) (fun _ _ => rfl)) (po_some (pv 6)) (po_some (pe_op op_add (pv 6) pe_int))) (pe_tup (pa_cons pe_str (pa_cons pe_str pa_nil))) rfl)
                (pss_one (ps_raise rfl (takes_of rfl rfl rfl rfl) (pmk_E O_BadText_init (hr.mono (by decide)) (by rfl) (pa_cons (pe_op op_add (pv 7) pe_int) (pa_cons pe_str (pa_cons (pe_slice sl_str (pe_ix ix_list (pv 0) (pv 7) (fun _ _ => rfl)) (po_some (pv 5)) (po_some (pv 6))) pa_nil))))))
                pss_nil)))
      (pss_cons (ps_expr (pe_ownX O_refuse_wrong_indents (hr.mono (by decide)) (takes_of rfl rfl rfl rfl) (fun _ _ _ _ h => h) (by rfl) (pa_cons (pv 0) (pa_cons (pe_op op_add (pv 2) pe_int) (pa_cons (pv 3) (pa_cons (pe_op op_add_str (pe_op op_repS pe_str (pv 5)) pe_str) pa_nil))))))
      (pss_one (ps_expr (pe_ownX O_refuse_wrong_indents (hr.mono (by decide)) (takes_of rfl rfl rfl rfl) (fun _ _ _ _ h => h) (by rfl) (pa_cons (pv 0) (pa_cons (pv 3) (pa_cons (pv 4) (pa_cons (pe_op op_repS pe_str (pv 5)) pa_nil)))))))))))), ?_⟩
    obtain ⟨am, me, ew⟩ := rc
    have h1 := hs.1
    have ha : a < ws.length := by omega
    have hga : ((ws.map mk).map V.str)[a]? = some (.str (mk ws[a])) := by
      rw [List.getElem?_map, List.getElem?_map, List.getElem?_eq_getElem ha]
      rfl
    have la := hs.2 _ (List.getElem_mem ha)
    have en : lead ws[a] = n := hn _ (List.getElem?_eq_getElem ha)
    have ll : n ≤ 10000 := by rw [← en]; exact Nat.le_trans (lead_le _) la
    have mo := mulOk_sp ll
    have ml := mul_len n
    refine ⟨.ref t, rfl, t, _, rfl, SqT.of ht, rfl, _, _, rfl, _, _, rfl, _, _, rfl, rfl, .ref p, rfl, .int (a : Int), rfl, p, _, _, .str (mk ws[a]), rfl, rfl, SqL.of hp, atI_nat hga, mk ws[a], rfl, by rw [mk_len]; omega, ?_⟩
    rw [show tl (mk ws[a]) = ws[a] from rfl, en]
    have e3 : ((">>>" : Str).length : Int) = 3 := by decide +kernel
    refine ⟨.int (n : Int), rfl, ">>>", rfl, by decide +kernel, _, _, rfl, rfl, .int (a : Int), rfl, .int (m : Int), rfl, a, m, rfl, ⟨by omega, by omega, by omega, by omega⟩, ?_⟩
    rw [e3]
    refine for_range (lo := (a : Int)) (n := ((m : Int) - (a : Int)).toNat) (fun i σ H1 => ∃ v7, σ = [some (.ref p), some (.ref t), some (.int (a : Int)), some (.int (m : Int)), some (.int (e : Int)), some (.int (n : Int)), some (.int ((n : Int) + 3)), v7] ∧ Same H H1 ∧ ∀ k, a ≤ k → k < a + i → blOk n (ws.getD k []) = true) ⟨_, rfl, (fun _ _ e => e), fun k h1 h2 => by omega⟩ ?_ ?_
    · rintro i σ H1 hi ⟨v7, rfl, s1, ok⟩
      have hj : a + i < ws.length := by omega
      have hgj : atI ((ws.map mk).map V.str) ((a : Int) + (i : Nat)) = some (.str (mk ws[a + i])) := by
        rw [show ((a : Int) + (i : Nat)) = ((a + i : Nat) : Int) by omega]
        exact atI_nat (by rw [List.getElem?_map, List.getElem?_map, List.getElem?_eq_getElem hj]; rfl)
      have lj := hs.2 _ (List.getElem_mem hj)
      have zj : (mk ws[a + i]).length ≤ sizeLine := by rw [mk_len]; exact line_of (by omega)
      refine ⟨.ref p, rfl, .int ((a : Int) + (i : Nat)), rfl, p, _, _, .str (mk ws[a + i]), rfl, rfl, SqL.of (s1 _ _ hp), hgj, .int _, rfl, _, rfl, .int _, rfl, _, _, rfl, rfl, _, rfl, mk ws[a + i], rfl, zj, by show 2 ≤ sizeLine; decide, fun T nT => ?_⟩
      generalize g1 : upd H1 T _ = H2
      obtain ⟨s2, eT⟩ : Same H1 H2 ∧ H2 T = some (.tup [.str "", .str " "]) := by
        subst g1
        exact ⟨same_new nT, upd_same⟩
      have s12 := s1.trans s2
      refine ⟨T, _, rfl, .inr (SqT.of eT), rfl, rfl, _, rfl, ?_⟩
      show ite ((!blOk n ws[a + i]) = true) _ _
      cases hb : blOk n ws[a + i] with
      | true =>
        refine iteF ⟨_, rfl, s12, fun k h1 h2 => ?_⟩
        by_cases hk : k = a + i
        · rw [hk, getD_some hj]
          exact hb
        · exact ok k h1 (by omega)
      | false =>
        have hf := firstB_some (ok := blOk n) (ws := ws) (a := a) (n := m - a) (i := i) ok (by omega) (by rw [getD_some hj]; exact hb)
        refine iteT ⟨.int ((a : Int) + (i : Nat)), rfl, _, _, rfl, rfl, .ref p, rfl, .int ((a : Int) + (i : Nat)), rfl, p, _, _, .str (mk ws[a + i]), rfl, rfl, SqL.of (s12 _ _ hp), hgj, .int (n : Int), rfl, _, rfl, .int ((n : Int) + 3), rfl, _, rfl, mk ws[a + i], rfl, zj, by show 3 ≤ 1000; decide, fun x nx => ⟨x, _, "blank", cutS (mk ws[a + i]) (some (n : Int)) (some ((n : Int) + (3 : Int))), rfl, upd_same, fun H6 d k1 nd nda k2 k3 => ⟨rfl, d, _, k2, k3, ?_, ?_⟩⟩⟩
        · rw [← upd_ne (H := H2) (a := x) (o := exo x C_BadText none) nda]
          exact nd
        · have nd5 : H2 d = none := by
            rw [← upd_ne (H := H2) (a := x) (o := exo x C_BadText none) nda]
            exact nd
          refine kE (a + i) "blank" _ (by unfold badR; rw [hf]) _ d (fun b o e => ?_) (s12.free nd5) ?_
          · have e2 := s12 _ _ e
            have ba : b ≠ x := ne_of_none e2 nx
            rw [upd_ne (ne_of_none e2 nd5), del_ne ba]
            exact k1 _ _ (by rw [upd_ne ba]; exact e2) ba
          · rw [upd_same, getD_some hj]
            unfold xdE
            push_cast
            rfl
    · rintro σ H1 ⟨v7, rfl, s1, ok⟩
      have f1 : firstB (blOk n) ws a (m - a) = none := firstB_none fun k h1 h2 => ok k h1 (by omega)
      refine ⟨.ref p, rfl, .int (a : Int), rfl, _, _, rfl, rfl, .int (m : Int), rfl, .int (n : Int), rfl, " ", _, rfl, rfl, mo, _, ".", rfl, rfl, ?_, p, ws, a + 1, m, _, rfl, s1 _ _ hp, by omega, by omega, hs, fun f2 => ?_, fun j f2 H' d s2 nd ed => kE j "indent" _ (by unfold badR; rw [f1]; dsimp only; rw [f2]) H' d (s1.trans s2) (s1.free nd) ed⟩
      · have : (".": Str).length = 1 := rfl
        exact line_of (by omega)
      exact ⟨.ref p, rfl, .int (m : Int), rfl, .int (e : Int), rfl, .int (n : Int), rfl, " ", _, rfl, rfl, mo, p, ws, m, e, _, rfl, s1 _ _ hp, by omega, ew, hs, fun f3 => k (by unfold badR; rw [f1]; dsimp only; rw [f2]; dsimp only; rw [f3]) _ s1, fun j f3 H' d s2 nd ed => kE j "indent" _ (by unfold badR; rw [f1]; dsimp only; rw [f2]; dsimp only; rw [f3]) H' d (s1.trans s2) (s1.free nd) ed⟩
theorem rows_bound {x : Str} {init : List (List Nat)} {last : List Nat} (ex : tl x = joinL [10] (init ++ [last])) (hx : x.length ≤ 10000) : (∀ l ∈ rowsOf init last, l.length ≤ 10000) ∧ (rowsOf init last).length ≤ 10002 ∧ ((rowsOf init last).map (·.length)).sum + (rowsOf init last).length ≤ 10001 := by
  have jl := joinL_len [10] (ps := init ++ [last]) (by simp)
  have e1 : ([10] : List Nat).length = 1 := rfl
  rw [e1, List.map_append, List.sum_append, List.length_append, ← ex] at jl
  have c1 : ([last].map (·.length)).sum = last.length := by
    show last.length + 0 = _
    omega
  rw [c1] at jl
  have lt : (tl x).length ≤ 10000 := by rw [← len_tl]; exact hx
  have jp := join_parts (init ++ [last])
  rw [← ex, List.length_append] at jp
  have l1 : [last].length = 1 := rfl
  rw [l1] at jl
  unfold rowsOf ifAny
  refine ⟨fun l hl => ?_, ?_, ?_⟩
  · rcases List.mem_append.mp hl with h | h
    · exact Nat.le_trans (jp.2 l (List.mem_append_left _ h)) lt
    · split at h
      · cases h
      · rw [List.mem_singleton.mp h]
        exact Nat.le_trans (jp.2 last (List.mem_append_right _ (List.mem_singleton.mpr rfl))) lt
  · rw [List.length_append]
    split
    · show _ + 0 ≤ _
      omega
    · omega
  · rw [List.map_append, List.sum_append, List.length_append]
    split
    · show _ + 0 + (_ + 0) ≤ _
      omega
    · rw [c1, l1]
      omega
/-- a line that is blank or a remark -/
def remL (l : List Nat) : Bool := isBlank l || Txt.startswith (Txt.lstripChars (mk l) " \t") "#"
def sp_is_remark : Sp := fun vs H Q _ => ∃ (x : Str) (init : List (List Nat)) (last : List Nat), vs = [.str x] ∧ tl x = joinL [10] (init ++ [last]) ∧ Rows10 (init ++ [last]) ∧ x.length ≤ 10000 ∧ ∀ H', Same H H' → Q (.bl (((rowsOf init last).map remL).all id)) H'
theorem ok_is_remark {f : Addr} {fd : FuncData} {dvs : List V} (F : Fn K "is_remark" s_is_remark dvs f fd) (O_lines_of : Own P w K mg base "lines_of" 2 ["text"] [] (sp_lines_of)) (O_is_blank : Own P w K mg base "is_blank" 1 ["line"] [] (sp_is_blank)) (m_all : mg "all" = none) {t_BLANKS : Tok} (c_BLANKS : mg "BLANKS" = some (.str " \t" t_BLANKS)) : FnOk P w K mg base CX0 3 f fd ["source"] (sp_is_remark) := by
  refine Fn.okN F sc_is_remark (fun vs H Q E h => ?_) (fun cdv A outer s H vs Q E hr h => ?_)
  · obtain ⟨_, _, _, rfl, _⟩ := h
    rfl
  · obtain ⟨x, init, last, rfl, ex, h10, hx, k⟩ := h
    refine ⟨_, (pss_one (ps_ret (pe_callB (cr_all rfl) (by rfl) m_all (by decide +kernel) (pa_cons (pe_lc (own := [("line", 1)]) (g := gName 1) (tt := tYes) (by rfl) sc_is_remark.nd (pi_list (pe_own O_lines_of (hr.mono (by decide)) (by rfl) (pa_cons (pv 0) pa_nil))) (blkOk_by (own := [("line", 1)]) (N := ["source", "line"]) (sc := defScope s_is_remark) (by decide +kernel)) (fun _ _ _ _ _ => (pg_name (i := 1) sc_is_remark.nd rfl (.inl rfl))) (fun _ _ _ _ _ => pts_nil) (fun _ _ _ _ _ => (pe_or (pe_own O_is_blank (hr.mono (by decide)) (by rfl) (pa_cons (pv 1) pa_nil)) (pe_one (pe_m1 PySem.F.slot_str_startswith PySem.F.type_str_startswith mt_startswith (pe_m1 PySem.F.slot_str_lstrip PySem.F.type_str_lstrip mt_lstripChars (pv 1) (pe_glob (v := .str " \t") rfl c_BLANKS ⟨_, rfl⟩)) pe_str))))) pa_nil)))), ?_⟩
    obtain ⟨rb, rn, rs⟩ := rows_bound ex hx
    refine ⟨.str x, rfl, x, init, last, rfl, ex, h10, hx, fun H1 p s1 np ep => ⟨p, rfl, ⟨_, SqL.of ep⟩, fun L nL => ?_⟩⟩
    generalize rowsOf init last = ls at rb rn rs ep k
    refine lc_list (K := K) (a := p) (xs := (ls.map mk).map V.str) (fun i H2 => H2 L = some (.lst (((ls.take i).map remL).map V.bl)) ∧ Same H1 H2) ⟨upd_same, same_new nL⟩ (fun i H2 _ h => SqL.of (h.2 _ _ ep)) ?_ ?_
    · rintro i v H2 hv ⟨eL, s2⟩
      obtain ⟨z, rfl, hz⟩ := str_at hv
      rw [List.getElem?_map] at hz
      obtain ⟨l, hl, rfl⟩ := Option.map_eq_some_iff.mp hz
      have gl := rb l (List.mem_of_getElem? hl)
      have hi : i < ls.length := (List.getElem?_eq_some_iff.mp hl).1
      have sz : (((ls.take i).map remL).map V.bl).length < sizeLine := by
        rw [List.length_map, List.length_map, List.length_take]
        exact Nat.lt_of_le_of_lt (show min i ls.length ≤ 10002 by omega) (by decide)
      have ap : ∀ b, b = remL l → (upd H2 L (.lst (((ls.take i).map remL).map V.bl ++ [.bl b]))) L = some (.lst (((ls.take (i + 1)).map remL).map V.bl)) := fun b hb => by
        rw [upd_same, List.take_add_one, hl, hb, List.map_append, List.map_append]
        rfl
      have sm : ∀ o', Same H1 (upd H2 L o') := fun o' b o e => by
        rw [upd_ne (ne_of_none e nL)]
        exact s2 b o e
      refine ⟨rfl, ?_⟩
      unfold tYes
      show ite (true = true) _ _
      rw [if_pos rfl]
      refine ⟨.str (mk l), rfl, mk l, rfl, by rw [mk_len]; omega, _, rfl, ?_⟩
      rw [show isBlank (tl (mk l)) = isBlank l from rfl]
      cases hb : isBlank l with
      | true => exact iteT ⟨_, eL, sz, ap true (by unfold remL; rw [hb]; rfl), sm _⟩
      | false => exact iteF ⟨.str (mk l), rfl, ⟨_, rfl⟩, mk l, " \t", rfl, rfl, by rw [mk_len]; exact line_of (by omega), ⟨_, rfl⟩, _, "#", rfl, rfl, _, eL, sz, ap _ (by unfold remL; rw [hb]; rfl), sm _⟩
    · rintro H2 ⟨eL, s2⟩
      rw [List.length_map, List.length_map, List.take_length] at eL
      exact ⟨L, ls.map remL, rfl, SqL.of eL, k _ (s1.trans s2)⟩
def lastQ (x : Str) : Int := if Txt.rfind x "\"" > Txt.rfind x "'" then Txt.rfind x "\"" else Txt.rfind x "'"
def markAt (x : Str) (i : Int) : Bool := Txt.startswith (Txt.lstripChars (cutS x (some (i + 1)) none) " \t") "doctest:"
def dirFrom (x : Str) : Nat → Int → Int
  | 0, i => i
  | f + 1, i => if i < 0 then i else if markAt x i = true then i else dirFrom x f (Txt.find3 x "#" (i + 1))
def dirPos (x : Str) : Int := dirFrom x (x.length + 1) (Txt.find3 x "#" (lastQ x + 1))
def dirS (x : Str) : Str := if dirPos x < 0 then "" else cutS x (some (dirPos x)) none
theorem find3_at (x : Str) (i : Int) (h : 0 ≤ i) : Txt.find3 x "#" i = -1 ∨ (i ≤ Txt.find3 x "#" i ∧ Txt.find3 x "#" i < (x.length : Int)) := by
  have e : ("#" : Str) = ⟨#[35]⟩ := ext_tl (by decide +kernel)
  unfold Txt.find3
  rcases StrLaws.occ_head_from x "#" (fromIndex x.length i) 1 (Nat.le_refl _) with ⟨h0, _⟩ | ⟨j, r, h0, h1, hj, _⟩
  · rw [h0]
    exact .inl rfl
  · rw [h0]
    rw [e] at hj
    have hl := (List.getElem?_eq_some_iff.mp (show (tl x)[j]? = some 35 from (StrLaws.subAt_one x 35 j).mp hj)).1
    rw [← len_tl] at hl
    refine .inr ?_
    show i ≤ (j : Int) ∧ (j : Int) < (x.length : Int)
    unfold fromIndex at h1
    rw [if_neg (by omega : ¬ i < 0)] at h1
    omega
theorem rfind_ge (x y : Str) : -1 ≤ Txt.rfind x y := by
  unfold Txt.rfind
  split <;> omega
def sp_directive_of : Sp := fun vs H Q _ => ∃ x : Str, vs = [.str x] ∧ x.length ≤ 10000 ∧ Q (.str (dirS x)) H
theorem ok_directive_of {f : Addr} {fd : FuncData} {dvs : List V} (F : Fn K "directive_of" s_directive_of dvs f fd) (m_max : mg "max" = none) {t_BLANKS : Tok} (c_BLANKS : mg "BLANKS" = some (.str " \t" t_BLANKS)) {t_MARK : Tok} (c_MARK : mg "MARK" = some (.str "doctest:" t_MARK)) : FnOk P w K mg base CX0 1 f fd ["line"] (sp_directive_of) := by
  refine Fn.okN F sc_directive_of (fun vs H Q E h => ?_) (fun cdv A outer s H vs Q E hr h => ?_)
  · obtain ⟨_, rfl, _⟩ := h
    rfl
  · obtain ⟨x, rfl, hx, k⟩ := h
    refine ⟨_, (pss_cons (ps_set (i := 1) sc_directive_of.nd rfl (.inl rfl) (pe_bm PySem.F.plainAttrs_str PySem.F.slot_str_find PySem.F.type_str_find mt_find3 (pv 0) (pa_cons pe_str (pa_cons (pe_op op_add (pe_callB (call_max2 rfl) (by rfl) m_max (by decide +kernel) (pa_cons (pe_m1 PySem.F.slot_str_rfind PySem.F.type_str_rfind mt_rfind (pv 0) pe_str) (pa_cons (pe_m1 PySem.F.slot_str_rfind PySem.F.type_str_rfind mt_rfind (pv 0) pe_str) pa_nil))) pe_int) pa_nil))))
      (pss_cons (ps_while PassesOwn.never (PW.pt (pw_and (pt_cmpR op_ge (pv 1) pe_int (nomark _)) (pw_and1 (pt_not (pt_val (pe_m1 PySem.F.slot_str_startswith PySem.F.type_str_startswith mt_startswith (pe_m1 PySem.F.slot_str_lstrip PySem.F.type_str_lstrip mt_lstripChars (pe_slice sl_str (pv 0) (po_some (pe_op op_add (pv 1) pe_int)) po_none) (pe_glob (v := .str " \t") rfl c_BLANKS ⟨_, rfl⟩)) (pe_glob (v := .str "doctest:") rfl c_MARK ⟨_, rfl⟩)))))))
          (pss_one (ps_set (i := 1) sc_directive_of.nd rfl (.inl rfl) (pe_bm PySem.F.plainAttrs_str PySem.F.slot_str_find PySem.F.type_str_find mt_find3 (pv 0) (pa_cons pe_str (pa_cons (pe_op op_add (pv 1) pe_int) pa_nil))))))
      (pss_one (ps_ret (pe_ifExp (pt_cmpR op_lt (pv 1) pe_int (nomark _)) pe_str (pe_slice sl_str (pv 0) (po_some (pv 1)) po_none)))))), ?_⟩
    have zx : x.length ≤ sizeLine := line_of (by omega)
    refine ⟨.str x, rfl, rfl, .str x, rfl, ⟨_, rfl⟩, x, "'", rfl, rfl, .str x, rfl, ⟨_, rfl⟩, x, "\"", rfl, rfl, _, _, rfl, _, _, rfl, rfl, x, "#", _, rfl, rfl, ?_⟩
    refine while_by (fun σ H1 => ∃ (f : Nat) (i : Int), σ = [some (.str x), some (.int i)] ∧ H = H1 ∧ dirFrom x f i = dirPos x ∧ (i < 0 ∨ ((x.length : Int) - i < f ∧ i < x.length))) (fun σ _ => match σ with | [_, some (.int z)] => if z < 0 then 0 else (x.length - z).toNat + 1 | _ => 0) ⟨x.length + 1, _, rfl, rfl, rfl, ?_⟩ ?_ (mo_and (mo_test (mo_op mo_I0 mo_var mo_const)) (mo_not (mo_B (mo_m1 (fun x xs H Q Q' i ⟨a, b, e1, e2, q⟩ => ⟨a, b, e1, e2, i _ _ q⟩) (mo_m1 (fun x xs H Q Q' i ⟨a, b, e1, e2, e3, q⟩ => ⟨a, b, e1, e2, e3, i _ _ q⟩) ?_ mo_const) mo_const))))
    · have lq : 0 ≤ lastQ x + 1 := by
        have r1 := rfind_ge x "\""
        have r2 := rfind_ge x "'"
        unfold lastQ
        split <;> omega
      rcases find3_at x (lastQ x + 1) lq with h | h
      · exact .inl (by show Txt.find3 x "#" (lastQ x + 1) < 0; omega)
      · refine .inr ?_
        show (x.length : Int) - Txt.find3 x "#" (lastQ x + 1) < ((x.length + 1 : Nat) : Int) ∧ Txt.find3 x "#" (lastQ x + 1) < (x.length : Int)
        omega
    · rintro σ H1 ⟨f, i, rfl, rfl, hf, hi⟩
      refine ⟨.int i, rfl, _, _, rfl, rfl, _, rfl, ?_⟩
      rcases Int.lt_or_le i 0 with h | h
      · rw [decide_eq_false (by omega)]
        refine iteF (iteF ⟨.int i, rfl, _, _, rfl, rfl, _, rfl, ?_⟩)
        rw [decide_eq_true h]
        have e1 : dirFrom x f i = i := by
          cases f with
          | zero => rfl
          | succ f => rw [dirFrom, if_pos h]
        unfold dirS at k
        rw [← hf, e1, if_pos h] at k
        exact iteT k
      · rw [decide_eq_true h]
        have hi2 := hi.resolve_left (by omega)
        cases f with
        | zero => exact absurd hi2.1 (by omega)
        | succ f =>
          rw [dirFrom, if_neg (by omega)] at hf
          refine iteT ⟨.str x, rfl, .int i, rfl, _, _, rfl, rfl, _, rfl, x, rfl, zx, ⟨_, rfl⟩, _, " \t", rfl, rfl, Nat.le_trans (cutS_length _ _ _) zx, ⟨_, rfl⟩, _, "doctest:", rfl, rfl, _, rfl, ?_⟩
          show ite ((!markAt x i) = true) _ _
          cases hm : markAt x i with
          | true =>
            rw [hm, if_pos rfl] at hf
            refine iteF ⟨.int i, rfl, _, _, rfl, rfl, _, rfl, ?_⟩
            rw [decide_eq_false (by omega)]
            unfold dirS at k
            rw [← hf, if_neg (by omega)] at k
            exact iteF ⟨.str x, rfl, .int i, rfl, _, rfl, x, rfl, zx, k⟩
          | false =>
            rw [hm, if_neg Bool.false_ne_true] at hf
            have fa := find3_at x (i + 1) (by omega)
            refine iteT ⟨.str x, rfl, rfl, .int i, rfl, _, _, rfl, rfl, x, "#", _, rfl, rfl, ⟨f, _, rfl, rfl, hf, by omega⟩, ?_⟩
            show (if Txt.find3 x "#" (i + 1) < 0 then 0 else ((x.length : Int) - Txt.find3 x "#" (i + 1)).toNat + 1) < (if i < 0 then 0 else ((x.length : Int) - i).toNat + 1)
            rw [if_neg (show ¬ i < 0 by omega)]
            split <;> omega
    · rintro σ H Q Q' i ⟨v1, e1, v2, e2, a, b, e3, e4, j, e5, z, e6, e7, q⟩
      exact ⟨v1, e1, v2, e2, a, b, e3, e4, j, e5, z, e6, e7, i _ _ q⟩
def sp_bare_line : Sp := fun vs H Q _ => ∃ x : Str, vs = [.str x] ∧ x.length ≤ 10000 ∧ Q (.str (Txt.rstripChars (Txt.removesuffix x (dirS x)) " \t")) H
theorem ok_bare_line {f : Addr} {fd : FuncData} {dvs : List V} (F : Fn K "bare_line" s_bare_line dvs f fd) (O_directive_of : Own P w K mg base "directive_of" 1 ["line"] [] (sp_directive_of)) {t_BLANKS : Tok} (c_BLANKS : mg "BLANKS" = some (.str " \t" t_BLANKS)) : FnOk P w K mg base CX0 2 f fd ["line"] (sp_bare_line) := by
  refine Fn.okN F sc_bare_line (fun vs H Q E h => ?_) (fun cdv A outer s H vs Q E hr h => ?_)
  · obtain ⟨_, rfl, _⟩ := h
    rfl
  · obtain ⟨x, rfl, hx, k⟩ := h
    refine ⟨_, (pss_one (ps_ret (pe_m1 PySem.F.slot_str_rstrip PySem.F.type_str_rstrip mt_rstripChars (pe_m1 PySem.F.slot_str_removesuffix PySem.F.type_str_removesuffix mt_removesuffix (pv 0) (pe_own O_directive_of (hr.mono (by decide)) (by rfl) (pa_cons (pv 0) pa_nil))) (pe_glob (v := .str " \t") rfl c_BLANKS ⟨_, rfl⟩)))), ?_⟩
    have zx : x.length ≤ sizeLine := line_of (by omega)
    exact ⟨.str x, rfl, ⟨_, rfl⟩, .str x, rfl, x, rfl, hx, x, dirS x, rfl, rfl, zx, ⟨_, rfl⟩, _, " \t", rfl, rfl, Nat.le_trans (rsuf_len _ _) zx, k⟩
/-- a source line without its directive, and without blanks at its end -/
def bareS (l : List Nat) : List Nat := tl (Txt.rstripChars (Txt.removesuffix (mk l) (dirS (mk l))) " \t")
theorem bareS_len (l : List Nat) : (bareS l).length ≤ l.length := by
  have a := rsuf_len (mk l) (dirS (mk l))
  have b : (Txt.rstripChars (Txt.removesuffix (mk l) (dirS (mk l))) " \t").length ≤ (Txt.removesuffix (mk l) (dirS (mk l))).length := len_stripBy _ _ _ _
  rw [mk_len] at a
  unfold bareS
  rw [← len_tl]
  omega
def sp_bare_of : Sp := fun vs H Q _ => ∃ (x : Str) (init : List (List Nat)) (last : List Nat), vs = [.str x] ∧ tl x = joinL [10] (init ++ [last]) ∧ Rows10 (init ++ [last]) ∧ x.length ≤ 10000 ∧ ∀ H', Same H H' → Q (.str (mk (joinL [] ((rowsOf init last).map fun l => bareS l ++ [10])))) H'
theorem ok_bare_of {f : Addr} {fd : FuncData} {dvs : List V} (F : Fn K "bare_of" s_bare_of dvs f fd) (O_lines_of : Own P w K mg base "lines_of" 2 ["text"] [] (sp_lines_of)) (O_bare_line : Own P w K mg base "bare_line" 2 ["line"] [] (sp_bare_line)) : FnOk P w K mg base CX0 3 f fd ["source"] (sp_bare_of) := by
  refine Fn.okN F sc_bare_of (fun vs H Q E h => ?_) (fun cdv A outer s H vs Q E hr h => ?_)
  · obtain ⟨_, _, _, rfl, _⟩ := h
    rfl
  · obtain ⟨x, init, last, rfl, ex, h10, hx, k⟩ := h
    refine ⟨_, (pss_one (ps_ret (pe_m1 PySem.F.slot_str_join PySem.F.type_str_join mt_join pe_str (pe_lc (own := [("line", 1)]) (g := gName 1) (tt := tYes) (by rfl) sc_bare_of.nd (pi_list (pe_own O_lines_of (hr.mono (by decide)) (by rfl) (pa_cons (pv 0) pa_nil))) (blkOk_by (own := [("line", 1)]) (N := ["source", "line"]) (sc := defScope s_bare_of) (by decide +kernel)) (fun _ _ _ _ _ => (pg_name (i := 1) sc_bare_of.nd rfl (.inl rfl))) (fun _ _ _ _ _ => pts_nil) (fun _ _ _ _ _ => (pe_op op_add_str (pe_own O_bare_line (hr.mono (by decide)) (by rfl) (pa_cons (pv 1) pa_nil)) pe_str)))))), ?_⟩
    obtain ⟨rb, rn, rs⟩ := rows_bound ex hx
    refine ⟨⟨_, rfl⟩, .str x, rfl, x, init, last, rfl, ex, h10, hx, fun H1 p s1 np ep => ⟨p, rfl, ⟨_, SqL.of ep⟩, fun L nL => ?_⟩⟩
    generalize rowsOf init last = ls at rb rn rs ep k
    refine lc_list (K := K) (a := p) (xs := (ls.map mk).map V.str) (fun i H2 => H2 L = some (rowsV ((ls.take i).map fun l => bareS l ++ [10])) ∧ Same H1 H2) ⟨upd_same, same_new nL⟩ (fun i H2 _ h => SqL.of (h.2 _ _ ep)) ?_ ?_
    · rintro i v H2 hv ⟨eL, s2⟩
      obtain ⟨z, rfl, hz⟩ := str_at hv
      rw [List.getElem?_map] at hz
      obtain ⟨l, hl, rfl⟩ := Option.map_eq_some_iff.mp hz
      have gl := rb l (List.mem_of_getElem? hl)
      have hi : i < ls.length := (List.getElem?_eq_some_iff.mp hl).1
      have bl := bareS_len l
      have l1 : ("\n" : Str).length = 1 := rfl
      refine ⟨rfl, ?_⟩
      unfold tYes
      show ite (true = true) _ _
      rw [if_pos rfl]
      refine ⟨.str (mk l), rfl, mk l, rfl, by rw [mk_len]; omega, _, _, rfl, rfl, ?_, _, eL, ?_, ?_, fun b o e => ?_⟩
      · rw [l1, len_tl]
        exact line_of (show (bareS l).length + 1 ≤ _ by omega)
      · rw [List.length_map, List.length_map, List.length_map, List.length_take]
        exact Nat.lt_of_le_of_lt (show min i ls.length ≤ 10002 by omega) (by decide)
      · rw [upd_same, List.take_add_one, hl, List.map_append]
        unfold rowsV
        rw [List.map_append, List.map_append]
        exact congrArg (fun v => some (HO.lst ((((ls.take i).map fun l => bareS l ++ [10]).map mk).map V.str ++ [v]))) (congrArg V.str (ext_tl (by rw [tl_append]; rfl)))
      · rw [upd_ne (ne_of_none e nL)]
        exact s2 b o e
    · rintro H2 ⟨eL, s2⟩
      rw [List.length_map, List.length_map, List.take_length] at eL
      refine ⟨"", L, (ls.map fun l => bareS l ++ [10]).map mk, rfl, rfl, .inl (SqL.of eL), ?_, ?_⟩
      · have e0 : ("" : Str).length = 0 := by decide +kernel
        rw [e0, Nat.mul_zero, List.map_map, List.map_map]
        have sb := sum_map_le (fun l : List Nat => (mk (bareS l ++ [10])).length) (fun l => (l ++ [10]).length) ls fun l _ => by
          have := bareS_len l
          show (mk (bareS l ++ [10])).length ≤ (l ++ [10]).length
          rw [mk_len, List.length_append, List.length_append]
          omega
        have sf := sum_fed ls
        rw [List.map_map] at sf
        show (ls.map fun l => (mk (bareS l ++ [10])).length).sum + 0 ≤ _
        have sf2 : (ls.map fun l => (l ++ [10]).length).sum = (ls.map (·.length)).sum + ls.length := sf
        omega
      · have e0 : ("" : Str) = mk [] := ext_tl (by decide +kernel)
        rw [e0, join_mk]
        exact k _ (s1.trans s2)
theorem dirS_sub (x : Str) : sgSub (dirS x) x ∧ (dirS x).length ≤ x.length := by
  unfold dirS
  split
  · exact ⟨fun c hc => (by cases hc), Nat.zero_le _⟩
  · exact cut_sub x _ _
/-- the words of the directive of a line -/
def dwS (x : Str) : List Str := wordsS (Txt.replace (behindC (dirS x)) "," " ")
def dwL (l : List Nat) : List Str := dwS (mk l)
def sp_directive_words : Sp := fun vs H Q _ => ∃ x : Str, vs = [.str x] ∧ x.length ≤ 10000 ∧ 9 ∉ tl x ∧ 10 ∉ tl x ∧ ∀ (H' : Hp) (p : Addr), Same H H' → H p = none → H' p = some (.lst ((dwS x).map V.str)) → Q (.ref p) H'
theorem ok_directive_words {f : Addr} {fd : FuncData} {dvs : List V} (F : Fn K "directive_words" s_directive_words dvs f fd) (O_words_of : Own P w K mg base "words_of" 1 ["text"] [] (sp_words_of)) (O_directive_of : Own P w K mg base "directive_of" 1 ["line"] [] (sp_directive_of)) : FnOk P w K mg base CX0 2 f fd ["line"] (sp_directive_words) := by
  refine Fn.okN F sc_directive_words (fun vs H Q E h => ?_) (fun cdv A outer s H vs Q E hr h => ?_)
  · obtain ⟨_, rfl, _⟩ := h
    rfl
  · obtain ⟨x, rfl, hx, h9, h10, k⟩ := h
    refine ⟨_, (pss_one (ps_ret (pe_own O_words_of (hr.mono (by decide)) (by rfl) (pa_cons (pe_replK (ek_ix ix_tup (pe_m1 PySem.F.slot_str_partition PySem.F.type_str_partition mt_partition (pe_own O_directive_of (hr.mono (by decide)) (by rfl) (pa_cons (pv 0) pa_nil)) pe_str) (fun _ _ => rfl)) (by decide +kernel)) pa_nil)))), ?_⟩
    have d := dirS_sub x
    have b := behind_sub (dirS x)
    have e44 : ("," : Str) = ⟨[44].toArray⟩ := ext_tl (by decide +kernel)
    have l1 : (" " : Str).length = 1 := rfl
    have tr := replace_map (behindC (dirS x)) 44 32
    refine ⟨.str x, rfl, x, rfl, hx, ⟨_, rfl⟩, dirS x, ":", rfl, rfl, by decide +kernel, line_of (by omega), fun T nT => ?_⟩
    have sT := same_new (o := .tup [.str (Txt.partition (dirS x) ":").1, .str (Txt.partition (dirS x) ":").2.1, .str (Txt.partition (dirS x) ":").2.2]) nT
    have mem : ∀ c, (c = 9 ∨ c = 10) → c ∉ tl (Txt.replace (behindC (dirS x)) "," " ") := fun c hc h => by
      rw [e44, sp_eq, tr] at h
      obtain ⟨d0, h0, h1⟩ := List.mem_map.mp h
      split at h1
      · omega
      · subst h1
        have := d.1 _ (b.1 _ h0)
        rcases hc with rfl | rfl
        · exact h9 this
        · exact h10 this
    have lr : (Txt.replace (behindC (dirS x)) "," " ").length = (behindC (dirS x)).length := by
      rw [len_tl, e44, sp_eq, tr, List.length_map, ← len_tl]
    refine ⟨T, _, 2, .str (Txt.partition (dirS x) ":").2.2, rfl, rfl, SqT.of upd_same, atI_nat (j := 2) rfl, behindC (dirS x), rfl, by rw [l1]; omega, _, rfl, mem 9 (.inl rfl), mem 10 (.inr rfl), by rw [lr]; omega, fun H1 p s1 np ep => ?_⟩
    exact k _ p (sT.trans s1) (sT.free np) ep
/-- a text among texts -/
def has (x : Str) (l : List Str) : Bool := l.any fun y => y == x
theorem inV_str (x : Str) (l : List Str) : inV (.str x) (l.map V.str) = has x l := by
  unfold inV has
  rw [List.any_map]
  rfl
theorem flat_strs (l : List Str) : (l.map V.str).all flatV = true := by
  rw [List.all_map]
  exact List.all_eq_true.mpr fun _ _ => rfl
def sp_is_flag : Sp := fun vs H Q _ => ∃ x : Str, vs = [.str x] ∧ Q (.bl (has x v_FLAGS)) H
theorem ok_is_flag {f : Addr} {fd : FuncData} {dvs : List V} (F : Fn K "is_flag" s_is_flag dvs f fd) (m_isinstance : mg "isinstance" = none) (m_str : mg "str" = none) {a_FLAGS : Addr} (c_FLAGS : mg "FLAGS" = some (.ref a_FLAGS)) (q_FLAGS : ∀ H, SqT K H a_FLAGS (v_FLAGS.map V.str)) : FnOk P w K mg base CX0 1 f fd ["thing"] (sp_is_flag) := by
  refine Fn.okN F sc_is_flag (fun vs H Q E h => ?_) (fun cdv A outer s H vs Q E hr h => ?_)
  · obtain ⟨_, rfl, _⟩ := h
    rfl
  · obtain ⟨x, rfl, k⟩ := h
    refine ⟨_, (pss_one (ps_ret (pe_and (pe_callB call_isi (by rfl) m_isinstance (by decide +kernel) (pa_cons (pv 0) (pa_cons (pe_bltn (v := .ty "str") (by rfl) m_str (by decide +kernel) rfl) pa_nil))) (pe_one (pe_cmpR op_in_seq (pv 0) (pe_glob (v := .ref a_FLAGS) rfl c_FLAGS rfl) rfl))))), ?_⟩
    refine ⟨_, rfl, _, _, _, _, true, rfl, .ty "str", .base (.str x), kit_ty (by decide +kernel), true, rfl, ?_⟩
    refine ⟨_, rfl, a_FLAGS, _, rfl, .inr (q_FLAGS H), rfl, flat_strs _, ?_⟩
    show Q (.bl (inV (.str x) (v_FLAGS.map V.str))) H
    rw [inV_str]
    exact k
/-- an option word: a sign that turns on or off, and a flag -/
def okW (w : Str) : Bool := inV (.str (cutS w none (some 1))) [.str "+", .str "-"] && has (cutS w (some 1) none) v_FLAGS
def sp_is_option_word : Sp := fun vs H Q _ => ∃ x : Str, vs = [.str x] ∧ x.length ≤ 100000 ∧ ∀ H', Same H H' → Q (.bl (okW x)) H'
theorem ok_is_option_word {f : Addr} {fd : FuncData} {dvs : List V} (F : Fn K "is_option_word" s_is_option_word dvs f fd) (O_is_flag : Own P w K mg base "is_flag" 1 ["thing"] [] (sp_is_flag)) : FnOk P w K mg base CX0 2 f fd ["word"] (sp_is_option_word) := by
  refine Fn.okN F sc_is_option_word (fun vs H Q E h => ?_) (fun cdv A outer s H vs Q E hr h => ?_)
  · obtain ⟨_, rfl, _⟩ := h
    rfl
  · obtain ⟨x, rfl, hx, k⟩ := h
    refine ⟨_, (pss_one (ps_ret (pe_and (pe_cmpR op_in_seq (pe_slice sl_str (pv 0) po_none (po_some pe_int)) (pe_tup (pa_cons pe_str (pa_cons pe_str pa_nil))) rfl) (pe_one (pe_own O_is_flag (hr.mono (by decide)) (by rfl) (pa_cons (pe_slice sl_str (pv 0) (po_some pe_int) po_none) pa_nil)))))), ?_⟩
    have zx : x.length ≤ sizeLine := line_of (by omega)
    refine ⟨.str x, rfl, 1, rfl, x, rfl, zx, by show 2 ≤ sizeLine; decide, fun T nT => ?_⟩
    have sT := same_new (o := .tup [.str "+", .str "-"]) nT
    refine ⟨T, _, rfl, .inr (SqT.of upd_same), rfl, rfl, _, rfl, ?_⟩
    unfold okW at k
    cases hc : inV (.str (cutS x none (some 1))) [.str "+", .str "-"] with
    | false =>
      rw [hc] at k
      exact iteF (k _ sT)
    | true =>
      rw [hc] at k
      exact iteT ⟨.str x, rfl, 1, rfl, x, rfl, zx, _, rfl, k _ sT⟩
/-- the options that words tell -/
def putO (kvs : List (Key × V)) (w : Str) : List (Key × V) := putK kvs (Sum.inr (cutS w (some 1) none)) (.bl (decide (V.str (cutS w none (some 1)) = V.str "+")))
def wordsAll (ls : List (List Nat)) : List Str := (ls.map dwL).flatten
def optsOf (ls : List (List Nat)) : List (Key × V) := (wordsAll ls).foldl putO []
structure OptsOk (ls : List (List Nat)) : Prop where
  ok : ∀ l ∈ ls, ∀ w ∈ dwL l, okW w = true
  few : (wordsAll ls).length ≤ 100000
theorem wa_app (a b : List (List Nat)) : wordsAll (a ++ b) = wordsAll a ++ wordsAll b := by
  unfold wordsAll
  rw [List.map_append, List.flatten_append]
theorem wa_take (ls : List (List Nat)) (i : Nat) : (wordsAll (ls.take i)).length ≤ (wordsAll ls).length := by
  have e := congrArg List.length (wa_app (ls.take i) (ls.drop i))
  rw [List.take_append_drop, List.length_append] at e
  omega
theorem wa_mem {ls : List (List Nat)} {l : List Nat} (h : l ∈ ls) : (dwL l).length ≤ (wordsAll ls).length := by
  obtain ⟨a, b, rfl⟩ := List.append_of_mem h
  rw [wa_app, List.length_append]
  have : (wordsAll (l :: b)).length = (dwL l).length + (wordsAll b).length := by
    unfold wordsAll
    rw [List.map_cons, List.flatten_cons, List.length_append]
  omega
theorem rows_mem {init : List (List Nat)} {last l : List Nat} (h : l ∈ rowsOf init last) : l ∈ init ++ [last] := by
  rcases List.mem_append.mp h with h | h
  · exact List.mem_append_left _ h
  · unfold ifAny at h
    split at h
    · cases h
    · exact List.mem_append_right _ h
theorem joinL_mem {S : List Nat} {c : Nat} {l : List Nat} : ∀ {ls : List (List Nat)}, l ∈ ls → c ∈ l → c ∈ joinL S ls
  | [], h, _ => by cases h
  | [a], h, hc => by
    rw [List.mem_singleton.mp h] at hc
    exact hc
  | a :: b :: r, h, hc => by
    rw [joinL_more _ _ (by simp)]
    rcases List.mem_cons.mp h with rfl | h
    · exact List.mem_append_left _ hc
    · exact List.mem_append_right _ (List.mem_append_right _ (joinL_mem h hc))
theorem putO_len (kvs : List (Key × V)) (w : Str) : (putO kvs w).length ≤ kvs.length + 1 := by
  unfold putO putK
  split
  · rw [List.length_map]
    omega
  · rw [List.length_append]
    exact Nat.le_refl _
theorem fold_len : ∀ (ws : List Str) (kvs : List (Key × V)), (ws.foldl putO kvs).length ≤ kvs.length + ws.length
  | [], _ => Nat.le_refl _
  | w :: r, kvs => by
    have := fold_len r (putO kvs w)
    have := putO_len kvs w
    rw [List.foldl_cons, List.length_cons]
    omega
theorem okW_cons {w : Str} (h : okW w = true) : ∃ c r, tl w = c :: r := by
  cases e : tl w with
  | cons c r => exact ⟨c, r, rfl⟩
  | nil =>
    exfalso
    have hw : w = mk [] := ext_tl e
    subst hw
    revert h
    unfold okW
    rw [show cutS (mk []) none (some 1) = mk [] from ext_tl (by decide +kernel), show inV (.str (mk [])) [.str "+", .str "-"] = false by decide +kernel]
    intro h
    cases h
theorem words_le (x : Str) {w : Str} (h : w ∈ wordsS x) : w.length ≤ x.length := by
  unfold wordsS at h
  rw [sp_eq] at h
  exact split_mem x (y := [32]) (by simp) (by decide) (List.mem_filter.mp h).1
theorem dw_le {l : List Nat} {w : Str} (h : w ∈ dwL l) : w.length ≤ l.length := by
  have h1 := words_le _ h
  have e44 : ("," : Str) = ⟨[44].toArray⟩ := ext_tl (by decide +kernel)
  have lr : (Txt.replace (behindC (dirS (mk l))) "," " ").length = (behindC (dirS (mk l))).length := by
    rw [len_tl, e44, sp_eq, replace_map (behindC (dirS (mk l))) 44 32, List.length_map, ← len_tl]
  have := (behind_sub (dirS (mk l))).2
  have := (dirS_sub (mk l)).2
  rw [mk_len] at this
  omega
def badW (ls : List (List Nat)) : Option Str := (wordsAll ls).find? fun w => !okW w
def sp_options_of (C : Addr) : Sp := fun vs H Q E => ∃ (x : Str) (init : List (List Nat)) (last : List Nat) (n : Int), vs = [.str x, .int n] ∧ tl x = joinL [10] (init ++ [last]) ∧ Rows10 (init ++ [last]) ∧ x.length ≤ 10000 ∧ (9 : Nat) ∉ tl x ∧ (wordsAll (rowsOf init last)).length ≤ 100000 ∧ ((∀ l ∈ rowsOf init last, ∀ w ∈ dwL l, okW w = true) → ∀ (H' : Hp) (p : Addr), Same H H' → H p = none → H' p = some (.dK (optsOf (rowsOf init last))) → Q (.ref p) H') ∧ ∀ w, badW (rowsOf init last) = some w → ∀ (H' : Hp) (d : Addr), Same H H' → H d = none → H' d = some (.xd [("found", .str w), ("reason", .str "option"), ("line", .int n)]) → E (.ref C) (some d) H'
theorem ok_options_of {f : Addr} {fd : FuncData} {dvs : List V} (F : Fn K "options_of" s_options_of dvs f fd) {C_BadText : Addr} (T_BadText : Err_BadText K mg C_BadText) (O_lines_of : Own P w K mg base "lines_of" 2 ["text"] [] (sp_lines_of)) (O_directive_words : Own P w K mg base "directive_words" 2 ["line"] [] (sp_directive_words)) (O_is_option_word : Own P w K mg base "is_option_word" 2 ["word"] [] (sp_is_option_word)) (O_BadText_init : OwnE P w K mg base "BadText" C_BadText 2 ["self", "line", "reason", "found"] (sp_BadText_init C_BadText)) : FnOk P w K mg base (L2.CX P w) 4 f fd ["source", "number"] (sp_options_of C_BadText) := by
  refine Fn.okX F sc_options_of (fun vs H Q E h => ?_) (fun cdv A outer s H vs Q E hr h => ?_)
  · obtain ⟨_, _, _, _, rfl, _⟩ := h
    rfl
  · obtain ⟨x, init, last, n, rfl, ex, h10, hx, h9, few, k, kE⟩ := h
    refine ⟨_, (pss_cons (ps_set (i := 2) sc_options_of.nd rfl (.inl rfl) pe_dnewK)
      (pss_cons (ps_for (passes_of rfl) rfl (pi_list (pe_own O_lines_of (hr.mono (by decide)) (by rfl) (pa_cons (pv 0) pa_nil))) (pg_name (i := 3) sc_options_of.nd rfl (.inl rfl))
          (pss_one (ps_for (passes_of rfl) rfl (pi_list (pe_own O_directive_words (hr.mono (by decide)) (by rfl) (pa_cons (pv 3) pa_nil))) (pg_name (i := 4) sc_options_of.nd rfl (.inl rfl))
                (pss_cons (ps_if (pt_not (pt_val (pe_own O_is_option_word (hr.mono (by decide)) (by rfl) (pa_cons (pv 4) pa_nil))))
                      (pss_one (ps_raise rfl (takes_of rfl rfl rfl rfl) (pmk_E O_BadText_init (hr.mono (by decide)) (by rfl) (pa_cons (pv 1) (pa_cons pe_str (pa_cons (pv 4) pa_nil))))))
                      pss_nil)
                  (pss_one (ps_dput (hu_of hr) (pv 2) (pe_slice sl_str (pv 4) (po_some pe_int) po_none) (pe_cmpR op_eq (pe_ix ix_str (pv 4) pe_int (fun _ _ => rfl)) pe_str (nomark _)) rfl))))))
      (pss_one (ps_ret (pv 2))))), ?_⟩
    obtain ⟨rb, rn, rs⟩ := rows_bound ex hx
    have r9 : ∀ l ∈ rowsOf init last, (9 : Nat) ∉ l ∧ (10 : Nat) ∉ l := fun l hl => by
      have hm : l ∈ init ++ [last] := rows_mem hl
      refine ⟨fun h => h9 ?_, h10 l hm⟩
      rw [ex]
      exact joinL_mem hm h
    refine fun C nC => ⟨.str x, rfl, x, init, last, rfl, ex, h10, hx, fun H1 p s1 np ep => ⟨p, rfl, ⟨_, SqL.of ep⟩, ?_⟩⟩
    generalize rowsOf init last = ls at rb rn rs few ep r9 k kE
    have sC := same_new (o := .dK []) nC
    have eC := s1 _ _ (upd_same (H := H) (a := C) (o := .dK []))
    have pC : p ≠ C := fun z => by
      rw [z, upd_same] at np
      cases np
    have sH : ∀ b o, H b = some o → H1 b = some o := fun b o e => s1 _ _ (sC _ _ e)
    refine for_list (K := K) (a := p) (xs := (ls.map mk).map V.str) (fun i σ H2 => ∃ v3 v4 : Option V, σ = [some (.str x), some (.int n), some (.ref C), v3, v4] ∧ H2 C = some (.dK (optsOf (ls.take i))) ∧ (∀ b o, b ≠ C → H1 b = some o → H2 b = some o) ∧ (∀ w ∈ wordsAll (ls.take i), okW w = true)) ⟨_, _, rfl, eC, (fun _ _ _ e => e), nofun⟩ (fun i σ H2 _ h => by obtain ⟨_, _, _, _, s, _⟩ := h; exact SqL.of (s _ _ pC ep)) ?_ ?_
    · rintro i v σ H2 hv ⟨v3, v4, rfl, eC2, s2, ok2⟩
      obtain ⟨z, rfl, hz⟩ := str_at hv
      rw [List.getElem?_map] at hz
      obtain ⟨l, hl, rfl⟩ := Option.map_eq_some_iff.mp hz
      have hm := List.mem_of_getElem? hl
      have w1 := wa_take ls i
      have w2 := wa_mem hm
      refine ⟨.str (mk l), rfl, mk l, rfl, by rw [mk_len]; exact rb l hm, (r9 l hm).1, (r9 l hm).2, fun H3 q s3 nq eq => ⟨q, rfl, ⟨_, SqL.of eq⟩, ?_⟩⟩
      have eC3 := s3 _ _ eC2
      have qC : q ≠ C := fun z => by
        rw [z, eC2] at nq
        cases nq
      refine for_list (K := K) (a := q) (xs := (dwS (mk l)).map V.str) (fun j σ H4 => ∃ v3 v4 : Option V, σ = [some (.str x), some (.int n), some (.ref C), v3, v4] ∧ H4 C = some (.dK (((dwL l).take j).foldl putO (optsOf (ls.take i)))) ∧ (∀ b o, b ≠ C → H3 b = some o → H4 b = some o) ∧ (∀ w ∈ (dwL l).take j, okW w = true)) ⟨_, _, rfl, eC3, (fun _ _ _ e => e), nofun⟩ (fun j σ H4 _ h => by obtain ⟨_, _, _, _, s, _⟩ := h; exact SqL.of (s _ _ qC eq)) ?_ ?_
      · rintro j v σ H4 hv4 ⟨v3, v4, rfl, eC4, s4, ok4⟩
        obtain ⟨w, rfl, hw4⟩ := str_at hv4
        have wm := List.mem_of_getElem? hw4
        have wl := dw_le wm
        have wz : w.length ≤ 10000 := Nat.le_trans wl (rb l hm)
        refine ⟨.str w, rfl, w, rfl, by omega, fun H5 s5 => ⟨_, rfl, ?_⟩⟩
        cases ow : okW w with
        | false =>
          have hfind : badW ls = some w := by
            have e0 : wordsAll ls = wordsAll (ls.take i) ++ ((dwL l).take j ++ w :: ((dwL l).drop (j + 1) ++ wordsAll (ls.drop (i + 1)))) := by
              have hil : i < ls.length := (List.getElem?_eq_some_iff.mp hl).1
              have e1 : ls = ls.take i ++ (l :: ls.drop (i + 1)) := by
                have : ls.drop i = l :: ls.drop (i + 1) := by rw [List.drop_eq_getElem_cons hil, (List.getElem?_eq_some_iff.mp hl).2]
                rw [← this, List.take_append_drop]
              have hjl : j < (dwL l).length := (List.getElem?_eq_some_iff.mp hw4).1
              have e2 : dwL l = (dwL l).take j ++ (w :: (dwL l).drop (j + 1)) := by
                have : (dwL l).drop j = w :: (dwL l).drop (j + 1) := by
                  rw [List.drop_eq_getElem_cons hjl]
                  congr 1
                  exact (List.getElem?_eq_some_iff.mp hw4).2
                rw [← this, List.take_append_drop]
              have e3 : wordsAll (l :: ls.drop (i + 1)) = dwL l ++ wordsAll (ls.drop (i + 1)) := rfl
              conv => lhs; rw [e1, wa_app, e3, e2]
              simp
            unfold badW
            rw [e0, List.find?_append, List.find?_eq_none.mpr (fun z hz => by rw [ok2 z hz]; decide), Option.none_or, List.find?_append, List.find?_eq_none.mpr (fun z hz => by rw [ok4 z hz]; decide), Option.none_or, List.find?_cons_of_pos (by rw [ow]; rfl)]
          refine iteT ⟨.int n, rfl, .str w, rfl, by show 3 ≤ 1000; decide, fun a na => ⟨a, n, "option", w, rfl, upd_same, fun H6 d k1 nd nda k2 k3 => ⟨rfl, d, _, k2, k3, ?_, ?_⟩⟩⟩
          · rw [← upd_ne (H := H5) (a := a) (o := exo a C_BadText none) nda]
            exact nd
          · have sA : Same H H5 := fun b o e => by
              have bC : b ≠ C := ne_of_none e nC
              exact s5 _ _ (s4 _ _ bC (s3 _ _ (s2 _ _ bC (sH _ _ e))))
            have nd5 : H5 d = none := by
              rw [← upd_ne (H := H5) (a := a) (o := exo a C_BadText none) nda]
              exact nd
            refine kE w hfind _ d (fun b o e => ?_) (sA.free nd5) upd_same
            have e5 := sA _ _ e
            have ba : b ≠ a := ne_of_none e5 na
            rw [upd_ne (ne_of_none e5 nd5), del_ne ba]
            exact k1 _ _ (by rw [upd_ne ba]; exact e5) ba
        | true =>
        obtain ⟨c, r, hwc⟩ := okW_cons ow
        have zw : w.length ≤ sizeLine := line_of (by omega)
        have e1 : cutS w none (some (1 : Int)) = mk [c] := by
          rw [← mk_tl' w, hwc, cut_one]
          rfl
        have kl := fold_len ((dwL l).take j) (optsOf (ls.take i))
        have kl2 := fold_len (wordsAll (ls.take i)) []
        have l0 : ([] : List (Key × V)).length = 0 := rfl
        rw [l0] at kl2
        rw [List.length_take] at kl
        refine iteF ⟨.str w, rfl, w, 0, c, rfl, rfl, zw, atI_nat (j := 0) (show (tl w)[0]? = some c by rw [hwc]; rfl), rfl, .ref C, rfl, .str w, rfl, 1, rfl, w, rfl, zw, C, _, rfl, DPut.k (k := Sum.inr (cutS w (some 1) none)) (s5 _ _ eC4) ?_, _, _, rfl, ?_, fun b o n e => ?_, fun z hz => ?_⟩
        · have : (optsOf (ls.take i)).length ≤ 0 + (wordsAll (ls.take i)).length := kl2
          have : (((dwL l).take j).foldl putO (optsOf (ls.take i))).length ≤ (optsOf (ls.take i)).length + (dwL l).length := Nat.le_trans kl (by omega)
          exact Nat.lt_of_le_of_lt (show _ ≤ 200000 by omega) (by decide)
        · rw [upd_same, List.take_add_one, show (dwL l)[j]? = some w from hw4, List.foldl_append]
          refine congrArg (fun z => some (HO.dK z)) ?_
          show putK _ _ _ = putO _ w
          unfold putO
          rw [e1]
          rfl
        · rw [upd_ne n]
          exact s5 _ _ (s4 _ _ n e)
        · rw [List.take_add_one, show (dwL l)[j]? = some w from hw4] at hz
          rcases List.mem_append.mp hz with q | q
          · exact ok4 z q
          · rw [List.mem_singleton.mp q]
            exact ow
      · rintro σ H4 ⟨v3, v4, rfl, eC4, s4, ok4⟩
        refine ⟨_, _, rfl, ?_, fun b o n e => s4 _ _ n (s3 _ _ (s2 _ _ n e)), fun z hz => ?_⟩
        rotate_left
        · rw [List.take_add_one, hl, wa_app] at hz
          rcases List.mem_append.mp hz with q | q
          · exact ok2 z q
          · refine ok4 z ?_
            rw [List.length_map]
            show z ∈ (dwL l).take (dwL l).length
            rw [List.take_length]
            have e3 : wordsAll (some l).toList = dwL l ++ [] := rfl
            rw [e3, List.append_nil] at q
            exact q
        rw [eC4, List.length_map]
        have : (dwS (mk l)).take (dwS (mk l)).length = dwS (mk l) := List.take_length
        show some (HO.dK (((dwS (mk l)).take (dwS (mk l)).length).foldl putO (optsOf (ls.take i)))) = _
        rw [this]
        unfold optsOf wordsAll
        rw [List.take_add_one, hl, List.map_append, List.flatten_append, List.foldl_append]
        show _ = some (HO.dK (([dwL l].flatten).foldl putO _))
        rw [List.flatten_cons, List.flatten_nil, List.append_nil]
        rfl
    · rintro σ H2 ⟨v3, v4, rfl, eC2, s2, ok2⟩
      rw [List.length_map, List.length_map, List.take_length] at ok2
      rw [List.length_map, List.length_map, List.take_length] at eC2
      exact ⟨.ref C, rfl, k (fun l hl w hw => ok2 w (List.mem_flatten.mpr ⟨dwL l, List.mem_map.mpr ⟨l, hl, rfl⟩, hw⟩)) _ C (fun b o e => s2 b o (ne_of_none e nC) (s1 _ _ (sC _ _ e))) nC eC2⟩
/-- a dict whose keys are flags -/
def FlagKeys (kvs : List (Key × V)) : Prop := ∀ kv ∈ kvs, ∃ z : Str, kv.1 = Sum.inr z ∧ has z v_FLAGS = true
theorem flagKeys_put {kvs : List (Key × V)} {w : Str} (h : FlagKeys kvs) (hw : okW w = true) : FlagKeys (putO kvs w) := fun kv hk => by
  have hf : has (cutS w (some 1) none) v_FLAGS = true := by
    unfold okW at hw
    rw [Bool.and_eq_true] at hw
    exact hw.2
  unfold putO putK at hk
  split at hk
  · obtain ⟨kv', h1, rfl⟩ := List.mem_map.mp hk
    obtain ⟨z, hz, hz2⟩ := h kv' h1
    refine ⟨z, ?_, hz2⟩
    split
    · exact hz
    · exact hz
  · rcases List.mem_append.mp hk with h1 | h1
    · exact h _ h1
    · rw [List.mem_singleton.mp h1]
      exact ⟨_, rfl, hf⟩
theorem flagKeys_fold : ∀ (ws : List Str) {kvs : List (Key × V)}, FlagKeys kvs → (∀ w ∈ ws, okW w = true) → FlagKeys (ws.foldl putO kvs)
  | [], _, h, _ => h
  | w :: r, kvs, h, hw => flagKeys_fold r (flagKeys_put h (hw w (List.mem_cons_self ..))) fun x hx => hw x (List.mem_cons_of_mem _ hx)
theorem flagKeys_opts {ls : List (List Nat)} (h : OptsOk ls) : FlagKeys (optsOf ls) := flagKeys_fold _ (fun kv hk => by cases hk) fun w hw => by
  obtain ⟨x, hx, hwx⟩ := List.mem_flatten.mp hw
  obtain ⟨l, hl, rfl⟩ := List.mem_map.mp hx
  exact h.ok l hl w hwx
def sp_require_flags : Sp := fun vs H Q _ => ∃ (d : Addr) (kvs : List (Key × V)), vs = [.ref d] ∧ H d = some (.dK kvs) ∧ FlagKeys kvs ∧ ∀ H', Same H H' → Q .non H'
theorem ok_require_flags {f : Addr} {fd : FuncData} {dvs : List V} (F : Fn K "require_flags" s_require_flags dvs f fd) (O_is_flag : Own P w K mg base "is_flag" 1 ["thing"] [] (sp_is_flag)) : FnOk P w K mg base CX0 2 f fd ["flags"] (sp_require_flags) := by
  refine Fn.okN F sc_require_flags (fun vs H Q E h => ?_) (fun cdv A outer s H vs Q E hr h => ?_)
  · obtain ⟨_, _, rfl, _⟩ := h
    rfl
  · obtain ⟨d, kvs, rfl, hd, hk, k⟩ := h
    refine ⟨_, (pss_one (ps_lock (ps_for PassesOwn.never rfl (pi_keys (pv 0)) (pg_name (i := 1) sc_require_flags.nd rfl (.inl rfl))
          (pss_one (ps_if (pt_not (pt_val (pe_own O_is_flag (hr.mono (by decide)) (by rfl) (pa_cons (pv 1) pa_nil))))
                (pss_one ps_never)
                pss_nil))))), ?_⟩
    refine ⟨d, .dK kvs, hd, trivial, fun od => ⟨.ref d, rfl, d, od, rfl, .inl ⟨kvs, upd_same, ?_⟩⟩⟩
    refine ⟨fun i m σ H1 => m = kvs.length - i ∧ i ≤ kvs.length ∧ (∃ v1 : Option V, σ = [some (.ref d), v1]) ∧ H1 = upd H d (.frz od (.dK kvs)), ⟨kvs.length, rfl, Nat.zero_le _, ⟨none, rfl⟩, rfl⟩, ?_⟩
    rintro i m σ H1 ⟨rfl, hi, ⟨v1, rfl⟩, rfl⟩
    by_cases hlt : i < kvs.length
    · refine .inr ⟨⟨upd_same, hlt⟩, fun σ' H' => (∃ v1 : Option V, σ' = [some (.ref d), v1]) ∧ H' = upd H d (.frz od (.dK kvs)), fun σ' H' h => ⟨kvs.length - (i + 1), by omega, rfl, hlt, h.1, h.2⟩, ?_⟩
      rintro y H' ⟨rfl, kk, v, hg, rfl⟩
      obtain ⟨z, hz, hf⟩ := hk _ (List.mem_of_getElem? hg)
      have ez : kV kk = .str z := by
        have : kk = Sum.inr z := hz
        rw [this]
        rfl
      rw [ez]
      refine ⟨.str z, rfl, z, rfl, true, by rw [hf], ?_⟩
      exact iteF ⟨⟨_, rfl⟩, rfl⟩
    · refine .inl ⟨⟨upd_same, by omega⟩, upd_same, k _ fun b o e => ?_⟩
      by_cases hb : b = d
      · rw [hb] at e ⊢
        rw [hd] at e
        cases e
        exact upd_same
      · rw [upd_ne hb, upd_ne hb]
        exact e
/-- the fields of an example -/
structure ExF (H : Hp) (fs : List (Str × V)) (src wt : Str) (er : V) (n i : Int) (br : Str) (kv : List (Key × V)) : Prop where
  source : fs.lookup ("source" : Str) = some (.str src)
  want : fs.lookup ("want" : Str) = some (.str wt)
  error : fs.lookup ("error" : Str) = some er
  line : fs.lookup ("line" : Str) = some (.int n)
  indent : fs.lookup ("indent" : Str) = some (.int i)
  options : ∃ o : Addr, fs.lookup ("options" : Str) = some (.ref o) ∧ H o = some (.dK kv)
  bare : fs.lookup ("bare" : Str) = some (.str br)
def bareT (init : List (List Nat)) (last : List Nat) : Str := mk (joinL [] ((rowsOf init last).map fun l => bareS l ++ [10]))
def sp_Example_init (C : Addr) : Sp := fun vs H Q _ => ∃ (x dx : Addr) (op : V) (kv : List (Key × V)) (src wt : Str) (init : List (List Nat)) (last : List Nat) (er : V) (n i : Int), vs = [.ref x, .str src, .str wt, er, .int n, .int i, op] ∧ (tl (fedS src) = joinL [10] (init ++ [last]) ∧ Rows10 (init ++ [last]) ∧ src.length ≤ 100000 ∧ (fedS src).length ≤ 10000) ∧ wt.length ≤ 100000 ∧ (er = .non ∨ ∃ e : Str, er = .str e ∧ e.length ≤ 100000) ∧
  H x = some (.ins C dx []) ∧ (op = .non ∧ kv = [] ∨ ∃ d, op = .ref d ∧ H d = some (.dK kv)) ∧ FlagKeys kv ∧ ∀ (H' : Hp) (fs : List (Str × V)), (∀ b o, H b = some o → b ≠ x → H' b = some o) → H' x = some (.ins C dx fs) → ExF H' fs (fedS src) (wantS wt) (errS er) n i (bareT init last) kv → Q .non H'
theorem ok_Example_init {f : Addr} {fd : FuncData} {dvs : List V} {kws : List (Str × V)} (F : FunD K "__init__" "Example.__init__" (defArgs s_Example_init) (defBody s_Example_init) (defScope s_Example_init) dvs kws f fd) {C_Example : Addr} (T_Example : Txt_Example K mg C_Example) (O_require_flags : Own P w K mg base "require_flags" 2 ["flags"] [] (sp_require_flags)) (O_fed : Own P w K mg base "fed" 1 ["text"] [] (sp_fed)) (O_bare_of : Own P w K mg base "bare_of" 3 ["source"] [] (sp_bare_of)) (m_dict : mg "dict" = none) : FnOk P w K mg base CX0 4 f fd ["self", "source", "want", "error", "line", "indent", "options"] (sp_Example_init C_Example) := by
  refine FunD_okN F sc_Example_init (fun vs H Q E h => ?_) (fun cdv A outer s H vs Q E hr h => ?_)
  · obtain ⟨_, _, _, _, _, _, _, _, _, _, _, rfl, _⟩ := h
    rfl
  · obtain ⟨x, dx, op, kv, src, wt, init, last, er, n, i, rfl, ⟨xe, h10, lsrc, hsl⟩, lw, he, hx, hop, hfk, k⟩ := h
    refine ⟨_, (pss_cut (ps_set (i := 7) sc_Example_init.nd rfl (.inl rfl) (pe_ifExp (pt_cmpR op_isN (pv 6) pe_non (nomark _)) pe_dnewK (pv 6)))
      (pss_cons (ps_expr (pe_own O_require_flags (hr.mono (by decide)) (by rfl) (pa_cons (pv 7) pa_nil)))
      (pss_cons (ps_fld (pv 0) (pe_own O_fed (hr.mono (by decide)) (by rfl) (pa_cons (pv 1) pa_nil)) rfl)
      (pss_cut (ps_fld (pv 0) (pe_ifExp (pt_tr (K' := K) (pv 2)) (pe_own O_fed (hr.mono (by decide)) (by rfl) (pa_cons (pv 2) pa_nil)) (pv 2)) rfl)
      (pss_cut (ps_fld (pv 0) (pe_ifExp (pt_cmpR op_isN (pv 3) pe_non (nomark _)) pe_non (pe_own O_fed (hr.mono (by decide)) (by rfl) (pa_cons (pv 3) pa_nil))) rfl)
      (pss_cons (ps_fld (pv 0) (pv 4) rfl)
      (pss_cons (ps_fld (pv 0) (pv 5) rfl)
      (pss_cons (ps_fld (pv 0) (pe_callTy call_dictD (by rfl) m_dict (by decide +kernel) (pa_cons (pv 7) pa_nil)) rfl)
      (pss_one (ps_fld (pv 0) (pe_own O_bare_of (hr.mono (by decide)) (by rfl) (pa_cons (pe_fldK (K' := K) rfl (pv 0) rfl) pa_nil)) rfl)))))))))), ?_⟩
    refine ⟨fun σ Hx => ∃ d : Addr, σ = [some (.ref x), some (.str src), some (.str wt), some er, some (.int n), some (.int i), some op, some (.ref d)] ∧ Same H Hx ∧ Hx d = some (.dK kv), ?_, ?_⟩
    · refine ⟨op, rfl, rfl, _, rfl, ?_⟩
      rcases hop with ⟨rfl, rfl⟩ | ⟨d, rfl, hd⟩
      · exact iteT (fun d nd => ⟨d, rfl, same_new nd, upd_same⟩)
      · rw [decide_eq_false (show V.ref d ≠ V.non from nofun)]
        exact iteF ⟨.ref d, rfl, d, rfl, fun _ _ e => e, hd⟩
    rintro σ Hx ⟨d, rfl, sx, hd⟩
    have hx0 := sx _ _ hx
    have xd : d ≠ x := fun e => by
      rw [e, hx0] at hd
      cases hd
    refine ⟨.ref d, rfl, d, kv, rfl, hd, hfk, fun H1 s1x => ?_⟩
    have s1 : Same H H1 := sx.trans s1x
    have hd1 := s1x _ _ hd
    have o1 : Out x H H1 := fun b o e _ => s1 _ _ e
    refine ⟨.str src, rfl, src, rfl, lsrc, .ref x, rfl, x, C_Example, dx, [], rfl, s1 _ _ hx, T_Example.cl, T_Example.n_source, by decide, ?_⟩
    have o2 : Out x H (upd H1 x (.ins C_Example dx (putF "source" (.str (fedS src)) []))) := o1.put
    have ex2 : Out x H1 (upd H1 x (.ins C_Example dx (putF "source" (.str (fedS src)) []))) := Out.put (fun b o e _ => e)
    have hd2 := ex2 _ _ hd1 xd
    have e2 : (upd H1 x (.ins C_Example dx (putF "source" (.str (fedS src)) []))) x = some (.ins C_Example dx (putF "source" (.str (fedS src)) [])) := upd_same
    have l2 : (putF "source" (.str (fedS src)) []).length ≤ 1 := put_len (Nat.le_refl 0)
    have k2 : (putF "source" (.str (fedS src)) []).lookup ("source" : Str) = some (.str (fedS src)) := by rw [lookup_putF, if_pos rfl]
    generalize putF "source" (.str (fedS src)) [] = f2 at o2 ex2 hd2 e2 l2 k2 ⊢
    generalize upd H1 x (.ins C_Example dx f2) = H2 at o2 ex2 hd2 e2 ⊢
    clear ex2
    refine ⟨fun σ H3 => ∃ f3 : List (Str × V), σ = [some (.ref x), some (.str src), some (.str wt), some er, some (.int n), some (.int i), some op, some (.ref d)] ∧ Out x H H3 ∧ H3 d = some (.dK kv) ∧ H3 x = some (.ins C_Example dx f3) ∧ f3.length ≤ 2 ∧ f3.lookup ("source" : Str) = some (.str (fedS src)) ∧ f3.lookup ("want" : Str) = some (.str (wantS wt)), ?_, ?_⟩
    · have fin : ∀ y : Str, y = wantS wt → ∃ f3 : List (Str × V), [some (V.ref x), some (.str src), some (.str wt), some er, some (.int n), some (.int i), some op, some (.ref d)] = [some (.ref x), some (.str src), some (.str wt), some er, some (.int n), some (.int i), some op, some (.ref d)] ∧ Out x H (upd H2 x (.ins C_Example dx (putF "want" (.str y) f2))) ∧ (upd H2 x (.ins C_Example dx (putF "want" (.str y) f2))) d = some (.dK kv) ∧ (upd H2 x (.ins C_Example dx (putF "want" (.str y) f2))) x = some (.ins C_Example dx f3) ∧ f3.length ≤ 2 ∧ f3.lookup ("source" : Str) = some (.str (fedS src)) ∧ f3.lookup ("want" : Str) = some (.str (wantS wt)) := fun y hy => by
        subst hy
        exact ⟨_, rfl, o2.put, (Out.put (fun b o e _ => e) : Out x H2 _) _ _ hd2 xd, upd_same, put_len l2, by rw [lookup_putF, if_neg (by decide +kernel), k2], by rw [lookup_putF, if_pos rfl]⟩
      refine ⟨.str wt, rfl, _, ⟨line_of (by omega), rfl⟩, ?_⟩
      cases hc : ((wt.length : Int) != 0) with
      | true => exact iteT ⟨.str wt, rfl, wt, rfl, lw, .ref x, rfl, x, C_Example, dx, f2, rfl, e2, T_Example.cl, T_Example.n_want, by omega, fin _ (by unfold wantS; rw [hc]; rfl)⟩
      | false => exact iteF ⟨.str wt, rfl, .ref x, rfl, x, C_Example, dx, f2, rfl, e2, T_Example.cl, T_Example.n_want, by omega, fin _ (by unfold wantS; rw [hc]; rfl)⟩
    rintro σ H3 ⟨f3, rfl, o3, hd3, e3, l3, k3, w3⟩
    clear e2 l2 k2 o2 hd2
    refine ⟨fun σ H4 => ∃ f4 : List (Str × V), σ = [some (.ref x), some (.str src), some (.str wt), some er, some (.int n), some (.int i), some op, some (.ref d)] ∧ Out x H H4 ∧ H4 d = some (.dK kv) ∧ H4 x = some (.ins C_Example dx f4) ∧ f4.length ≤ 3 ∧ f4.lookup ("source" : Str) = some (.str (fedS src)) ∧ f4.lookup ("want" : Str) = some (.str (wantS wt)) ∧ f4.lookup ("error" : Str) = some (errS er), ?_, ?_⟩
    · have fin : ∀ y : V, y = errS er → ∃ f4 : List (Str × V), [some (V.ref x), some (.str src), some (.str wt), some er, some (.int n), some (.int i), some op, some (.ref d)] = [some (.ref x), some (.str src), some (.str wt), some er, some (.int n), some (.int i), some op, some (.ref d)] ∧ Out x H (upd H3 x (.ins C_Example dx (putF "error" y f3))) ∧ (upd H3 x (.ins C_Example dx (putF "error" y f3))) d = some (.dK kv) ∧ (upd H3 x (.ins C_Example dx (putF "error" y f3))) x = some (.ins C_Example dx f4) ∧ f4.length ≤ 3 ∧ f4.lookup ("source" : Str) = some (.str (fedS src)) ∧ f4.lookup ("want" : Str) = some (.str (wantS wt)) ∧ f4.lookup ("error" : Str) = some (errS er) := fun y hy => by
        subst hy
        exact ⟨_, rfl, o3.put, (Out.put (fun b o e _ => e) : Out x H3 _) _ _ hd3 xd, upd_same, put_len l3, by rw [lookup_putF, if_neg (by decide +kernel), k3], by rw [lookup_putF, if_neg (by decide +kernel), w3], by rw [lookup_putF, if_pos rfl]⟩
      rcases he with rfl | ⟨e, rfl, le⟩
      · exact ⟨.non, rfl, rfl, _, rfl, iteT ⟨.ref x, rfl, x, C_Example, dx, f3, rfl, e3, T_Example.cl, T_Example.n_error, by omega, fin _ rfl⟩⟩
      · refine ⟨.str e, rfl, rfl, _, rfl, ?_⟩
        rw [decide_eq_false (show V.str e ≠ V.non from nofun)]
        exact iteF ⟨.str e, rfl, e, rfl, le, .ref x, rfl, x, C_Example, dx, f3, rfl, e3, T_Example.cl, T_Example.n_error, by omega, fin _ rfl⟩
    rintro σ H4 ⟨f4, rfl, o4, hd4, e4, l4, k4, w4, r4⟩
    clear e3 l3 k3 w3 o3 hd3
    refine ⟨.int n, rfl, .ref x, rfl, x, C_Example, dx, f4, rfl, e4, T_Example.cl, T_Example.n_line, by omega, ?_⟩
    have hd5 := (Out.put (fun b o e _ => e) : Out x H4 (upd H4 x (.ins C_Example dx (putF "line" (.int n) f4)))) _ _ hd4 xd
    have o5 : Out x H (upd H4 x (.ins C_Example dx (putF "line" (.int n) f4))) := o4.put
    have e5 : (upd H4 x (.ins C_Example dx (putF "line" (.int n) f4))) x = some (.ins C_Example dx (putF "line" (.int n) f4)) := upd_same
    have l5 := put_len (f := "line") (v := .int n) l4
    have k5 : (putF "line" (.int n) f4).lookup ("source" : Str) = some (.str (fedS src)) := by rw [lookup_putF, if_neg (by decide +kernel), k4]
    have w5 : (putF "line" (.int n) f4).lookup ("want" : Str) = some (.str (wantS wt)) := by rw [lookup_putF, if_neg (by decide +kernel), w4]
    have n5 : (putF "line" (.int n) f4).lookup ("line" : Str) = some (.int n) := by rw [lookup_putF, if_pos rfl]
    have r5 : (putF "line" (.int n) f4).lookup ("error" : Str) = some (errS er) := by rw [lookup_putF, if_neg (by decide +kernel), r4]
    generalize putF "line" (.int n) f4 = f5 at hd5 o5 e5 l5 k5 w5 n5 r5 ⊢
    generalize upd H4 x (.ins C_Example dx f5) = H5 at hd5 o5 e5 ⊢
    refine ⟨.int i, rfl, .ref x, rfl, x, C_Example, dx, f5, rfl, e5, T_Example.cl, T_Example.n_indent, by omega, ?_⟩
    have hd6 := (Out.put (fun b o e _ => e) : Out x H5 (upd H5 x (.ins C_Example dx (putF "indent" (.int i) f5)))) _ _ hd5 xd
    have o6 : Out x H (upd H5 x (.ins C_Example dx (putF "indent" (.int i) f5))) := o5.put
    have e6 : (upd H5 x (.ins C_Example dx (putF "indent" (.int i) f5))) x = some (.ins C_Example dx (putF "indent" (.int i) f5)) := upd_same
    have l6 := put_len (f := "indent") (v := .int i) l5
    have k6 : (putF "indent" (.int i) f5).lookup ("source" : Str) = some (.str (fedS src)) := by rw [lookup_putF, if_neg (by decide +kernel), k5]
    have w6 : (putF "indent" (.int i) f5).lookup ("want" : Str) = some (.str (wantS wt)) := by rw [lookup_putF, if_neg (by decide +kernel), w5]
    have n6 : (putF "indent" (.int i) f5).lookup ("line" : Str) = some (.int n) := by rw [lookup_putF, if_neg (by decide +kernel), n5]
    have i6 : (putF "indent" (.int i) f5).lookup ("indent" : Str) = some (.int i) := by rw [lookup_putF, if_pos rfl]
    have r6 : (putF "indent" (.int i) f5).lookup ("error" : Str) = some (errS er) := by rw [lookup_putF, if_neg (by decide +kernel), r5]
    generalize putF "indent" (.int i) f5 = f6 at hd6 o6 e6 l6 k6 w6 n6 i6 r6 ⊢
    generalize upd H5 x (.ins C_Example dx f6) = H6 at hd6 o6 e6 ⊢
    refine ⟨.ref d, rfl, d, kv, rfl, Rd.of hd6, fun p np => ⟨.ref x, rfl, x, C_Example, dx, f6, rfl, same_new np _ _ e6, T_Example.cl, T_Example.n_options, by omega, ?_⟩⟩
    have o7 : Out x H (upd (upd H6 p (.dK kv)) x (.ins C_Example dx (putF "options" (.ref p) f6))) := (o6.same (same_new np)).put
    have e7 : (upd (upd H6 p (.dK kv)) x (.ins C_Example dx (putF "options" (.ref p) f6))) x = some (.ins C_Example dx (putF "options" (.ref p) f6)) := upd_same
    have l7 := put_len (f := "options") (v := .ref p) l6
    have k7 : (putF "options" (.ref p) f6).lookup ("source" : Str) = some (.str (fedS src)) := by rw [lookup_putF, if_neg (by decide +kernel), k6]
    have w7 : (putF "options" (.ref p) f6).lookup ("want" : Str) = some (.str (wantS wt)) := by rw [lookup_putF, if_neg (by decide +kernel), w6]
    have n7 : (putF "options" (.ref p) f6).lookup ("line" : Str) = some (.int n) := by rw [lookup_putF, if_neg (by decide +kernel), n6]
    have i7 : (putF "options" (.ref p) f6).lookup ("indent" : Str) = some (.int i) := by rw [lookup_putF, if_neg (by decide +kernel), i6]
    have p7 : (putF "options" (.ref p) f6).lookup ("options" : Str) = some (.ref p) := by rw [lookup_putF, if_pos rfl]
    have px : p ≠ x := fun z => by rw [z, e6] at np; cases np
    have ep7 : (upd (upd H6 p (.dK kv)) x (.ins C_Example dx (putF "options" (.ref p) f6))) p = some (.dK kv) := by rw [upd_ne px]; exact upd_same
    have r7 : (putF "options" (.ref p) f6).lookup ("error" : Str) = some (errS er) := by rw [lookup_putF, if_neg (by decide +kernel), r6]
    generalize putF "options" (.ref p) f6 = f7 at o7 e7 l7 k7 w7 n7 i7 p7 ep7 r7 ⊢
    generalize upd (upd H6 p (.dK kv)) x (.ins C_Example dx f7) = H7 at o7 e7 ep7 ⊢
    refine ⟨.ref x, rfl, x, C_Example, dx, f7, _, rfl, e7, T_Example.cl, T_Example.n_source, k7, fedS src, init, last, rfl, xe, h10, hsl, fun H8 s8 => ?_⟩
    have o8 := o7.same s8
    have e8 := s8 _ _ e7
    refine ⟨.ref x, rfl, x, C_Example, dx, f7, rfl, e8, T_Example.cl, T_Example.n_bare, by omega, k _ (putF "bare" (.str (bareT init last)) f7) o8.put upd_same ⟨?_, ?_, ?_, ?_, ?_, ⟨p, ?_, ?_⟩, ?_⟩⟩
    · rw [lookup_putF, if_neg (by decide +kernel), k7]
    · rw [lookup_putF, if_neg (by decide +kernel), w7]
    · rw [lookup_putF, if_neg (by decide +kernel), r7]
    · rw [lookup_putF, if_neg (by decide +kernel), n7]
    · rw [lookup_putF, if_neg (by decide +kernel), i7]
    · rw [lookup_putF, if_neg (by decide +kernel), p7]
    · rw [upd_ne px]
      exact s8 _ _ ep7
    · rw [lookup_putF, if_pos rfl]
def sp_is_word_sign : Sp := fun vs H Q _ => ∃ c : Nat, vs = [.str ⟨#[c]⟩] ∧ Q (.bl (c == 95 || Txt.isalnum ⟨#[c]⟩)) H
theorem ok_is_word_sign {f : Addr} {fd : FuncData} {dvs : List V} (F : Fn K "is_word_sign" s_is_word_sign dvs f fd) : FnOk P w K mg base CX0 1 f fd ["sign"] (sp_is_word_sign) := by
  refine Fn.okN F sc_is_word_sign (fun vs H Q E h => ?_) (fun cdv A outer s H vs Q E hr h => ?_)
  · obtain ⟨_, rfl, _⟩ := h
    rfl
  · obtain ⟨c, rfl, k⟩ := h
    refine ⟨_, (pss_one (ps_ret (pe_or (pe_cmpR op_eq (pv 0) pe_str (nomark _)) (pe_one (pe_m0 PySem.F.slot_str_isalnum PySem.F.type_str_isalnum mt_isalnum (pv 0)))))), ?_⟩
    refine ⟨.str ⟨#[c]⟩, rfl, rfl, _, rfl, ?_⟩
    rw [us_dec]
    cases h : (c == 95) with
    | true =>
      rw [h, Bool.true_or] at k
      exact iteT k
    | false =>
      rw [h, Bool.false_or] at k
      exact iteF ⟨.str ⟨#[c]⟩, rfl, ⟨_, rfl⟩, _, rfl, rfl, trivial, k⟩
def sp_error_of : Sp := fun vs H Q _ => ∃ (x : Str) (init : List (List Nat)) (last : List Nat), vs = [.str x] ∧ tl x = joinL [10] (init ++ [last]) ∧ Rows10 (init ++ [last]) ∧ x.length ≤ 10000 ∧ ∀ H', Same H H' → Q (optV (errP (keptOf init last))) H'
theorem ok_error_of {f : Addr} {fd : FuncData} {dvs : List V} (F : Fn K "error_of" s_error_of dvs f fd) (O_kept_lines : Own P w K mg base "kept_lines" 1 ["text"] [] (sp_kept_lines)) (O_is_word_sign : Own P w K mg base "is_word_sign" 1 ["sign"] [] (sp_is_word_sign)) (m_len : mg "len" = none) (m_range : mg "range" = none) {a_HEADERS : Addr} (c_HEADERS : mg "HEADERS" = some (.ref a_HEADERS)) (q_HEADERS : ∀ H, SqT K H a_HEADERS (v_HEADERS.map V.str)) : FnOk P w K mg base CX0 2 f fd ["want"] (sp_error_of) := by
  refine Fn.okN F sc_error_of (fun vs H Q E h => ?_) (fun cdv A outer s H vs Q E hr h => ?_)
  · obtain ⟨_, _, _, rfl, _⟩ := h
    rfl
  · obtain ⟨x, init, last, rfl, ex, h10, hx, k⟩ := h
    refine ⟨_, (pss_cons (ps_set (i := 1) sc_error_of.nd rfl (.inl rfl) (pe_own O_kept_lines (hr.mono (by decide)) (by rfl) (pa_cons (pv 0) pa_nil)))
      (pss_cons (ps_if (PW.pt (pw_or (pt_not (pt_tr (K' := K) (pv 1))) (pw_or1 (pt_cmpR op_notIn_seq (pe_m1 PySem.F.slot_str_rstrip PySem.F.type_str_rstrip mt_rstripChars (pe_m1 PySem.F.slot_str_removesuffix PySem.F.type_str_removesuffix mt_removesuffix (pe_ix ix_list (pv 1) pe_int (fun _ _ => rfl)) pe_str) pe_str) (pe_glob (v := .ref a_HEADERS) rfl c_HEADERS rfl) rfl))))
          (pss_one (ps_ret pe_non))
          pss_nil)
      (pss_cons (ps_for PassesOwn.never rfl (pi_range2 rfl m_range (pa_cons pe_int (pa_cons (pe_callB call_len_seq (by rfl) m_len PySem.boot_len (pa_cons (pv 1) pa_nil)) pa_nil))) (pg_name (i := 2) sc_error_of.nd rfl (.inl rfl))
          (pss_one (ps_if (pt_val (pe_own O_is_word_sign (hr.mono (by decide)) (by rfl) (pa_cons (pe_ix ix_str (pe_ix ix_list (pv 1) (pv 2) (fun _ _ => rfl)) pe_int (fun _ _ => rfl)) pa_nil)))
                (pss_one (ps_ret (pe_m1 PySem.F.slot_str_join PySem.F.type_str_join mt_join pe_str (pe_slice sl_list (pv 1) (po_some (pv 2)) po_none))))
                pss_nil)))
      (pss_one (ps_ret pe_non))))), ?_⟩
    have lt : (tl x).length ≤ 10000 := by rw [← len_tl]; exact hx
    have jp := join_parts (init ++ [last])
    have ks := kept_sum init last
    rw [← ex] at jp ks
    rw [List.length_append] at jp
    have hne := kept_ne init last
    have kn : (keptOf init last).length ≤ 10002 := by
      have : [last].length = 1 := rfl
      unfold keptOf ifAny
      rw [List.length_append, List.length_map]
      split
      · show _ + 0 ≤ _
        omega
      · show _ + 1 ≤ _
        omega
    refine ⟨.str x, rfl, x, init, last, rfl, ex, h10, hx, fun H1 p s1 np ep => ?_⟩
    generalize keptOf init last = L at ks hne kn ep k
    cases L with
    | nil => exact ⟨.ref p, rfl, _, .inl ⟨[], SqL.of ep, rfl⟩, iteT (iteT (k _ s1))⟩
    | cons h r =>
      have hh : h.length ≤ 10000 := by
        have : ((h :: r).map (·.length)).sum = h.length + (r.map (·.length)).sum := rfl
        omega
      have hrl : ∀ l ∈ r, l.length ≤ 10000 := fun l hl => by
        have e1 : ((h :: r).map (·.length)).sum = h.length + (r.map (·.length)).sum := rfl
        have e2 : l.length ≤ (r.map (·.length)).sum := le_sum hl
        omega
      have eh : inV (.str (Txt.rstripChars (Txt.removesuffix (mk h) "\n") " ")) (v_HEADERS.map V.str) = isHead (noNl h) := by
        unfold isHead noNl
        rw [mk_tl']
      refine ⟨.ref p, rfl, _, .inl ⟨_, SqL.of ep, rfl⟩, iteF ⟨.ref p, rfl, p, _, 0, .str (mk h), rfl, rfl, SqL.of ep, atI_nat (j := 0) rfl, ⟨_, rfl⟩, mk h, "\n", rfl, rfl, by rw [mk_len]; exact line_of (by omega), ⟨_, rfl⟩, _, " ", rfl, rfl, ?_, a_HEADERS, _, rfl, .inr (q_HEADERS _), rfl, rfl, _, rfl, ?_⟩⟩
      · have : (Txt.removesuffix (mk h) "\n").length ≤ (mk h).length := rsuf_len _ _
        rw [mk_len] at this
        exact line_of (by omega)
      rw [eh]
      unfold errP at k
      dsimp only at k
      cases hd : isHead (noNl h) with
      | false =>
        rw [hd] at k
        exact iteT (k _ s1)
      | true =>
        rw [hd, if_pos rfl] at k
        have hlen : (((h :: r).map mk).map V.str).length = r.length + 1 := by rw [List.length_map, List.length_map]; rfl
        rw [List.length_cons] at kn
        have hne2 : ∀ l ∈ r, l ≠ [] := fun l hl => hne l (List.mem_cons_of_mem _ hl)
        refine iteF ⟨.ref p, rfl, p, _, rfl, .inl (SqL.of ep), ?_⟩
        rw [hlen]
        refine ⟨1, ((r.length + 1 : Nat) : Int), rfl, ⟨by decide, by decide, by omega, by omega⟩, for_range (lo := 1) (n := (((r.length + 1 : Nat) : Int) - 1).toNat) (fun i σ H2 => ∃ v2, σ = [some (.str x), some (.ref p), v2] ∧ Same H1 H2 ∧ ∀ j l, j < i → r[j]? = some l → wordS l = false) ⟨_, rfl, fun _ _ e => e, fun j l a _ => absurd a (Nat.not_lt_zero _)⟩ ?_ ?_⟩
        · rintro i σ H2 hi ⟨v2, rfl, s2, hb⟩
          have hir : i < r.length := by omega
          have ei : (1 : Int) + (i : Nat) = ((i + 1 : Nat) : Int) := by omega
          have hl : r[i]? = some r[i] := List.getElem?_eq_getElem hir
          have hm := List.mem_of_getElem? hl
          have hg : (((h :: r).map mk).map V.str)[i + 1]? = some (.str (mk r[i])) := by
            rw [List.getElem?_map, List.getElem?_map, List.getElem?_cons_succ, hl]
            rfl
          have hll := hrl _ hm
          have hn := hne2 _ hm
          generalize r[i] = l at hl hm hg hll hn
          rw [ei]
          cases l with
          | nil => exact absurd rfl hn
          | cons c l' =>
            refine ⟨.ref p, rfl, .int ((i + 1 : Nat) : Int), rfl, p, _, _, .str (mk (c :: l')), rfl, rfl, SqL.of (s2 _ _ ep), atI_nat hg, mk (c :: l'), 0, c, rfl, rfl, by rw [mk_len]; exact line_of (by omega), atI_nat (j := 0) rfl, c, rfl, _, rfl, ?_⟩
            show if wordS (c :: l') = true then _ else _
            cases hw : wordS (c :: l') with
            | false =>
              refine iteF ⟨_, rfl, s2, fun j l hj hjl => ?_⟩
              rcases Nat.lt_or_ge j i with a | a
              · exact hb j l a hjl
              · have : j = i := by omega
                rw [this, hl] at hjl
                cases hjl
                exact hw
            | true =>
              have dw : (r.dropWhile fun l => !wordS l) = r.drop i := dropWhile_at hl (by rw [hw]; rfl) fun j l' hj hjl => by rw [hb j l' hj hjl]; rfl
              have dc : r.drop i = (c :: l') :: r.drop (i + 1) := by
                rw [List.drop_eq_getElem_cons hir]
                rw [List.getElem?_eq_getElem hir] at hl
                rw [Option.some.inj hl]
              rw [dw] at k
              have ev : optV (flatO (r.drop i)) = .str (mk (joinL [] (r.drop i))) := by rw [dc]; rfl
              rw [ev] at k
              refine iteT ⟨⟨_, rfl⟩, .ref p, rfl, .int ((i + 1 : Nat) : Int), rfl, _, rfl, p, _, rfl, SqL.of (s2 _ _ ep), fun q nq => ?_⟩
              have ec : cutV (((h :: r).map mk).map V.str) (some ((i + 1 : Nat) : Int)) none = ((r.drop i).map mk).map V.str := by
                rw [cutV_drop _ _ (by rw [hlen]; omega), List.map_drop, List.map_drop]
                rfl
              have sq := same_new (o := .lst (((r.drop i).map mk).map V.str)) nq
              rw [ec]
              refine ⟨"", q, (r.drop i).map mk, rfl, rfl, .inl (SqL.of upd_same), ?_, ?_⟩
              · have a1 := drop_sum r i
                have a2 : ((h :: r).map (·.length)).sum = h.length + (r.map (·.length)).sum := rfl
                have e0 : ("" : Str).length = 0 := by decide +kernel
                rw [e0, Nat.mul_zero, List.map_map]
                show ((r.drop i).map (·.length)).sum + 0 ≤ _
                omega
              · have e0 : ("" : Str) = mk [] := ext_tl (by decide +kernel)
                rw [e0, join_mk]
                exact k _ (s1.trans (s2.trans sq))
        · rintro σ H2 ⟨v2, rfl, s2, hb⟩
          rw [dropWhile_none (fun l hl => ?_)] at k
          · exact k _ (s1.trans s2)
          · obtain ⟨j, hj, e⟩ := List.getElem_of_mem hl
            rw [hb j l (by omega) (by rw [List.getElem?_eq_getElem hj, e])]
            rfl
/-- the fields of a comment -/
structure CoF (fs : List (Str × V)) (src wt : Str) (n i : Int) : Prop where
  source : fs.lookup ("source" : Str) = some (.str src)
  want : fs.lookup ("want" : Str) = some (.str wt)
  line : fs.lookup ("line" : Str) = some (.int n)
  indent : fs.lookup ("indent" : Str) = some (.int i)
def sp_Comment_init (C : Addr) : Sp := fun vs H Q _ => ∃ (x dx : Addr) (src wt : Str) (n i : Int), vs = [.ref x, .str src, .str wt, .int n, .int i] ∧ src.length ≤ 100000 ∧ wt.length ≤ 100000 ∧
  H x = some (.ins C dx []) ∧ ∀ (H' : Hp) (fs : List (Str × V)), (∀ b o, H b = some o → b ≠ x → H' b = some o) → H' x = some (.ins C dx fs) → CoF fs (fedS src) (wantS wt) n i → Q .non H'
theorem ok_Comment_init {f : Addr} {fd : FuncData} {dvs : List V} {kws : List (Str × V)} (F : FunD K "__init__" "Comment.__init__" (defArgs s_Comment_init) (defBody s_Comment_init) (defScope s_Comment_init) dvs kws f fd) {C_Comment : Addr} (T_Comment : Txt_Comment K mg C_Comment) (O_fed : Own P w K mg base "fed" 1 ["text"] [] (sp_fed)) : FnOk P w K mg base CX0 2 f fd ["self", "source", "want", "line", "indent"] (sp_Comment_init C_Comment) := by
  refine FunD_okN F sc_Comment_init (fun vs H Q E h => ?_) (fun cdv A outer s H vs Q E hr h => ?_)
  · obtain ⟨_, _, _, _, _, _, rfl, _⟩ := h
    rfl
  · obtain ⟨x, dx, src, wt, n, i, rfl, tn, lw, hx, k⟩ := h
    refine ⟨_, (pss_cons (ps_fld (pv 0) (pe_own O_fed (hr.mono (by decide)) (by rfl) (pa_cons (pv 1) pa_nil)) rfl)
      (pss_cut (ps_fld (pv 0) (pe_ifExp (pt_tr (K' := K) (pv 2)) (pe_own O_fed (hr.mono (by decide)) (by rfl) (pa_cons (pv 2) pa_nil)) (pv 2)) rfl)
      (pss_cons (ps_fld (pv 0) (pv 3) rfl)
      (pss_one (ps_fld (pv 0) (pv 4) rfl))))), ?_⟩
    refine ⟨.str src, rfl, src, rfl, tn, .ref x, rfl, x, C_Comment, dx, [], rfl, hx, T_Comment.cl, T_Comment.n_source, by decide, ?_⟩
    have o2 : Out x H (upd H x (.ins C_Comment dx (putF "source" (.str (fedS src)) []))) := Out.put (fun b o e _ => e)
    have e2 : (upd H x (.ins C_Comment dx (putF "source" (.str (fedS src)) []))) x = some (.ins C_Comment dx (putF "source" (.str (fedS src)) [])) := upd_same
    have l2 : (putF "source" (.str (fedS src)) []).length ≤ 1 := put_len (Nat.le_refl 0)
    have k2 : (putF "source" (.str (fedS src)) []).lookup ("source" : Str) = some (.str (fedS src)) := by rw [lookup_putF, if_pos rfl]
    generalize putF "source" (.str (fedS src)) [] = f2 at o2 e2 l2 k2 ⊢
    generalize upd H x (.ins C_Comment dx f2) = H2 at o2 e2 ⊢
    refine ⟨fun σ H3 => ∃ f3 : List (Str × V), σ = [some (.ref x), some (.str src), some (.str wt), some (.int n), some (.int i)] ∧ Out x H H3 ∧ H3 x = some (.ins C_Comment dx f3) ∧ f3.length ≤ 2 ∧ f3.lookup ("source" : Str) = some (.str (fedS src)) ∧ f3.lookup ("want" : Str) = some (.str (wantS wt)), ?_, ?_⟩
    · have fin : ∀ y : Str, y = wantS wt → ∃ f3 : List (Str × V), [some (V.ref x), some (.str src), some (.str wt), some (.int n), some (.int i)] = [some (.ref x), some (.str src), some (.str wt), some (.int n), some (.int i)] ∧ Out x H (upd H2 x (.ins C_Comment dx (putF "want" (.str y) f2))) ∧ (upd H2 x (.ins C_Comment dx (putF "want" (.str y) f2))) x = some (.ins C_Comment dx f3) ∧ f3.length ≤ 2 ∧ f3.lookup ("source" : Str) = some (.str (fedS src)) ∧ f3.lookup ("want" : Str) = some (.str (wantS wt)) := fun y hy => by
        subst hy
        exact ⟨_, rfl, o2.put, upd_same, put_len l2, by rw [lookup_putF, if_neg (by decide +kernel), k2], by rw [lookup_putF, if_pos rfl]⟩
      refine ⟨.str wt, rfl, _, ⟨line_of (by omega), rfl⟩, ?_⟩
      cases hc : ((wt.length : Int) != 0) with
      | true => exact iteT ⟨.str wt, rfl, wt, rfl, lw, .ref x, rfl, x, C_Comment, dx, f2, rfl, e2, T_Comment.cl, T_Comment.n_want, by omega, fin _ (by unfold wantS; rw [hc]; rfl)⟩
      | false => exact iteF ⟨.str wt, rfl, .ref x, rfl, x, C_Comment, dx, f2, rfl, e2, T_Comment.cl, T_Comment.n_want, by omega, fin _ (by unfold wantS; rw [hc]; rfl)⟩
    rintro σ H3 ⟨f3, rfl, o3, e3, l3, k3, w3⟩
    clear e2 l2 k2 o2
    refine ⟨.int n, rfl, .ref x, rfl, x, C_Comment, dx, f3, rfl, e3, T_Comment.cl, T_Comment.n_line, by omega, ?_⟩
    have o4 : Out x H (upd H3 x (.ins C_Comment dx (putF "line" (.int n) f3))) := o3.put
    have e4 : (upd H3 x (.ins C_Comment dx (putF "line" (.int n) f3))) x = some (.ins C_Comment dx (putF "line" (.int n) f3)) := upd_same
    have l4 := put_len (f := "line") (v := .int n) l3
    refine ⟨.int i, rfl, .ref x, rfl, x, C_Comment, dx, putF "line" (.int n) f3, rfl, e4, T_Comment.cl, T_Comment.n_indent, by omega, k _ _ o4.put upd_same ⟨?_, ?_, ?_, ?_⟩⟩
    · rw [lookup_putF, if_neg (by decide +kernel), lookup_putF, if_neg (by decide +kernel), k3]
    · rw [lookup_putF, if_neg (by decide +kernel), lookup_putF, if_neg (by decide +kernel), w3]
    · rw [lookup_putF, if_neg (by decide +kernel), lookup_putF, if_pos rfl]
    · rw [lookup_putF, if_pos rfl]
theorem joinL_sum : ∀ d : List (List Nat), (joinL [] d).length = (d.map (·.length)).sum
  | [] => rfl
  | a :: r => by rw [joinL_flat, List.length_append, joinL_sum r, List.map_cons, List.sum_cons]
theorem sum_dropW (p : List Nat → Bool) : ∀ r : List (List Nat), ((r.dropWhile p).map (·.length)).sum ≤ (r.map (·.length)).sum
  | [] => Nat.le_refl _
  | a :: r => by
    have ih := sum_dropW p r
    rw [List.dropWhile_cons, List.map_cons, List.sum_cons]
    split
    · omega
    · rw [List.map_cons, List.sum_cons]
      omega
theorem errP_len {R : List (List Nat)} {l : List Nat} (h : errP R = some l) : l.length ≤ (R.map (·.length)).sum := by
  cases R with
  | nil => cases h
  | cons a r =>
    have h2 : (if isHead (noNl a) = true then flatO (r.dropWhile fun l => !wordS l) else none) = some l := h
    have e := sum_dropW (fun l => !wordS l) r
    rw [List.map_cons, List.sum_cons]
    generalize r.dropWhile (fun l => !wordS l) = d at e h2
    split at h2
    · cases d with
      | nil => cases h2
      | cons b q =>
        have h3 : joinL [] (b :: q) = l := Option.some.inj h2
        rw [← h3, joinL_sum]
        omega
    · cases h2
def srcL (ws : List (List Nat)) (a m n : Nat) : List (List Nat) := ((ws.drop a).take (m - a)).map (·.drop n)
def rowsT (ls : List (List Nat)) : Str := mk (joinL [] (ls.map (· ++ [10])))
theorem seg_sum (ws : List (List Nat)) (a k n : Nat) : ((((ws.drop a).take k).map (·.drop n)).map (·.length)).sum ≤ (ws.map (·.length)).sum := by
  have h1 := drop_sum ws a
  generalize ws.drop a = x at h1 ⊢
  have h2 : ((x.take k).map (·.length)).sum ≤ (x.map (·.length)).sum := by
    have e := congrArg List.sum (congrArg (List.map (·.length)) (List.take_append_drop k x))
    rw [List.map_append, List.sum_append] at e
    omega
  have h3 := sum_map_le (fun l : List Nat => (l.drop n).length) (fun l => l.length) (x.take k) fun l _ => by
    show (l.drop n).length ≤ l.length
    rw [List.length_drop]
    omega
  rw [List.map_map]
  exact Nat.le_trans h3 (Nat.le_trans h2 h1)
theorem seg_mem {ws : List (List Nat)} {a k n : Nat} {l : List Nat} (h : l ∈ ((ws.drop a).take k).map (·.drop n)) : ∃ l' ∈ ws, l = l'.drop n := by
  obtain ⟨l', h1, rfl⟩ := List.mem_map.mp h
  exact ⟨l', List.mem_of_mem_drop (List.mem_of_mem_take h1), rfl⟩
theorem seg_len (ws : List (List Nat)) (a k n : Nat) : (((ws.drop a).take k).map (·.drop n)).length ≤ ws.length := by
  rw [List.length_map, List.length_take, List.length_drop]
  omega
theorem putO_ne (kvs : List (Key × V)) (w : Str) : putO kvs w ≠ [] := fun e => by
  unfold putO putK at e
  split at e
  · rename_i h
    rw [List.map_eq_nil_iff] at e
    rw [e] at h
    cases h
  · exact List.append_ne_nil_of_right_ne_nil _ (by simp) e
theorem fold_ne : ∀ (ws : List Str) (kvs : List (Key × V)), kvs ≠ [] → ws.foldl putO kvs ≠ []
  | [], _, h => h
  | w :: r, kvs, _ => fold_ne r _ (putO_ne kvs w)
theorem opts_ne {ls : List (List Nat)} (h : wordsAll ls ≠ []) : optsOf ls ≠ [] := by
  unfold optsOf
  cases e : wordsAll ls with
  | nil => exact absurd e h
  | cons w r => exact fold_ne r _ (putO_ne [] w)
/-- what is wrong of an example or a comment with these source lines: the reason, what was found -/
def badP (sl : List (List Nat)) : Option (Str × Str) := match badW sl with
  | some w => some ("option", w)
  | none => if (sl.all remL && !(wordsAll sl).isEmpty) = true then some ("no example", rowsT sl) else none
theorem badW_none {ls : List (List Nat)} (h : ∀ l ∈ ls, ∀ w ∈ dwL l, okW w = true) : badW ls = none := by
  unfold badW
  rw [List.find?_eq_none]
  intro w hw
  obtain ⟨x, hx, hwx⟩ := List.mem_flatten.mp hw
  obtain ⟨l, hl, rfl⟩ := List.mem_map.mp hx
  rw [h l hl w hwx]
  decide
def sp_piece_at (C D B : Addr) : Sp := fun vs H Q E => ∃ (p t : Addr) (ws : List (List Nat)) (a m e n : Nat), vs = [.ref p, .ref t] ∧ H p = some (rowsV ws) ∧ H t = some (cutV3 (a, m, e)) ∧ Short ws ∧ WkCut ws a m e ∧ Rows10 ws ∧ (ws.map (·.length)).sum + ws.length ≤ 9500 ∧ (∀ l, ws[a]? = some l → lead l = n) ∧ (∀ l ∈ ws, (9 : Nat) ∉ l) ∧ (wordsAll (srcL ws a m (n + 4))).length ≤ 100000 ∧ (badR ws a m e n = none → badP (srcL ws a m (n + 4)) = none → ∀ (H' : Hp) (q dx : Addr) (fs : List (Str × V)), Same H H' → H q = none →
    (if (srcL ws a m (n + 4)).all remL = true then H' q = some (.ins D dx fs) ∧ CoF fs (rowsT (srcL ws a m (n + 4))) (rowsT (srcL ws m e n)) ((a + 1 : Nat) : Int) (n : Int)
      else H' q = some (.ins C dx fs) ∧ ExF H' fs (rowsT (srcL ws a m (n + 4))) (rowsT (srcL ws m e n)) (optV (errP ((srcL ws m e n).map (· ++ [10])))) ((a + 1 : Nat) : Int) (n : Int) (bareT (srcL ws a m (n + 4)) []) (optsOf (srcL ws a m (n + 4)))) → Q (.ref q) H') ∧ (badR ws a m e n = none → ∀ rf, badP (srcL ws a m (n + 4)) = some rf → ∀ (H' : Hp) (d : Addr), Same H H' → H d = none → H' d = some (.xd [("found", .str rf.2), ("reason", .str rf.1), ("line", .int ((a : Int) + 1))]) → E (.ref B) (some d) H') ∧
  ∀ j r f, badR ws a m e n = some (j, r, f) → Raises B H E ((j : Int) + 1) r f
theorem ok_piece_at {f : Addr} {fd : FuncData} {dvs : List V} (F : Fn K "piece_at" s_piece_at dvs f fd) {C_Example : Addr} (T_Example : Txt_Example K mg C_Example) {C_Comment : Addr} (T_Comment : Txt_Comment K mg C_Comment) {C_BadText : Addr} (T_BadText : Err_BadText K mg C_BadText) (O_refuse_wrong_lines : OwnX P w K mg base "refuse_wrong_lines" 5 ["lines", "cut"] [] (sp_refuse_wrong_lines C_BadText)) (O_indent_of : Own P w K mg base "indent_of" 1 ["line"] [] (sp_indent_of)) (O_options_of : OwnX P w K mg base "options_of" 4 ["source", "number"] [] (sp_options_of C_BadText)) (O_is_remark : Own P w K mg base "is_remark" 3 ["source"] [] (sp_is_remark)) (O_Example_init : OwnC P w K mg base "Example" C_Example 4 ["self", "source", "want", "error", "line", "indent", "options"] ["error", "line", "indent", "options"] 2 (sp_Example_init C_Example)) (O_error_of : Own P w K mg base "error_of" 2 ["want"] [] (sp_error_of)) (O_BadText_init : OwnE P w K mg base "BadText" C_BadText 2 ["self", "line", "reason", "found"] (sp_BadText_init C_BadText)) (O_Comment_init : OwnC P w K mg base "Comment" C_Comment 2 ["self", "source", "want", "line", "indent"] ["line", "indent"] 2 (sp_Comment_init C_Comment)) {t_AHEAD : Tok} (c_AHEAD : mg "AHEAD" = some (.int 4 t_AHEAD)) : FnOk P w K mg base (L2.CX P w) 6 f fd ["lines", "cut"] (sp_piece_at C_Example C_Comment C_BadText) := by
  refine Fn.okX F sc_piece_at (fun vs H Q E h => ?_) (fun cdv A outer s H vs Q E hr h => ?_)
  · obtain ⟨_, _, _, _, _, _, _, rfl, _⟩ := h
    rfl
  · obtain ⟨p, t, ws, a, m, e, n, rfl, hp, ht, hs, rc, h10, hl, hn, h9, few, k, kE, kR⟩ := h
    refine ⟨_, (pss_cons (ps_expr (pe_ownX O_refuse_wrong_lines (hr.mono (by decide)) (takes_of rfl rfl rfl rfl) (fun _ _ _ _ h => h) (by rfl) (pa_cons (pv 0) (pa_cons (pv 1) pa_nil))))
      (pss_cons (ps_asg (pv 1) (pg_tup rfl (pgs_cons (pg_name (i := 2) sc_piece_at.nd rfl (.inl rfl)) (pgs_cons (pg_name (i := 3) sc_piece_at.nd rfl (.inl rfl)) (pgs_cons (pg_name (i := 4) sc_piece_at.nd rfl (.inl rfl)) pgs_nil)))))
      (pss_cons (ps_set (i := 5) sc_piece_at.nd rfl (.inr rfl) (pe_own O_indent_of (hr.mono (by decide)) (by rfl) (pa_cons (pe_ix ix_list (pv 0) (pv 2) (fun _ _ => rfl)) pa_nil)))
      (pss_cons (ps_set (i := 6) sc_piece_at.nd rfl (.inl rfl) (pe_m1 PySem.F.slot_str_join PySem.F.type_str_join mt_join pe_str (pe_lc (own := [("line", 9)]) (g := gName 9) (tt := tYes) (by rfl) sc_piece_at.nd (pi_list (pe_slice sl_list (pv 0) (po_some (pv 2)) (po_some (pv 3)))) (blkOk_by (own := [("line", 9)]) (N := ["lines", "cut", "start", "middle", "end", "indent", "source", "want", "options", "line"]) (sc := defScope s_piece_at) (by decide +kernel)) (fun _ _ _ _ _ => (pg_name (i := 9) sc_piece_at.nd rfl (.inl rfl))) (fun _ _ _ _ _ => pts_nil) (fun _ _ _ _ _ => (pe_op op_add_str (pe_slice sl_str (pv 9) (po_some (pe_op op_add (pv 5) (pe_glob (v := .int 4) rfl c_AHEAD ⟨_, rfl⟩))) po_none) pe_str)))))
      (pss_cons (ps_set (i := 7) sc_piece_at.nd rfl (.inl rfl) (pe_m1 PySem.F.slot_str_join PySem.F.type_str_join mt_join pe_str (pe_lc (own := [("line", 9)]) (g := gName 9) (tt := tYes) (by rfl) sc_piece_at.nd (pi_list (pe_slice sl_list (pv 0) (po_some (pv 3)) (po_some (pv 4)))) (blkOk_by (own := [("line", 9)]) (N := ["lines", "cut", "start", "middle", "end", "indent", "source", "want", "options", "line"]) (sc := defScope s_piece_at) (by decide +kernel)) (fun _ _ _ _ _ => (pg_name (i := 9) sc_piece_at.nd rfl (.inl rfl))) (fun _ _ _ _ _ => pts_nil) (fun _ _ _ _ _ => (pe_op op_add_str (pe_slice sl_str (pv 9) (po_some (pv 5)) po_none) pe_str)))))
      (pss_cons (ps_set (i := 8) sc_piece_at.nd rfl (.inl rfl) (pe_ownX O_options_of (hr.mono (by decide)) (takes_of rfl rfl rfl rfl) (fun _ _ _ _ h => h) (by rfl) (pa_cons (pv 6) (pa_cons (pe_op op_add (pv 2) pe_int) pa_nil))))
      (pss_cons (ps_if (pt_not (pt_val (pe_own O_is_remark (hr.mono (by decide)) (by rfl) (pa_cons (pv 6) pa_nil))))
          (pss_one (ps_ret (pe_ownC O_Example_init (hr.mono (by decide)) (by rfl) (pa_cons (pv 6) (pa_cons (pv 7) pa_nil)) (pk_cons (pe_own O_error_of (hr.mono (by decide)) (by rfl) (pa_cons (pv 7) pa_nil)) (pk_cons (pe_op op_add (pv 2) pe_int) (pk_cons (pv 5) (pk_cons (pv 8) pk_nil)))))))
          pss_nil)
      (pss_cons (ps_if (pt_tr (K' := K) (pv 8))
          (pss_one (ps_raise rfl (takes_of rfl rfl rfl rfl) (pmk_E O_BadText_init (hr.mono (by decide)) (by rfl) (pa_cons (pe_op op_add (pv 2) pe_int) (pa_cons pe_str (pa_cons (pv 6) pa_nil))))))
          pss_nil)
      (pss_one (ps_ret (pe_ownC O_Comment_init (hr.mono (by decide)) (by rfl) (pa_cons (pv 6) (pa_cons (pv 7) pa_nil)) (pk_cons (pe_op op_add (pv 2) pe_int) (pk_cons (pv 5) pk_nil))))))))))))), ?_⟩
    have am := rc.am
    have me := rc.me
    have ew := rc.ew
    have h1 := hs.1
    have hlen : ((ws.map mk).map V.str).length = ws.length := by rw [List.length_map, List.length_map]
    have ha : a < ws.length := by omega
    have hga : ((ws.map mk).map V.str)[a]? = some (.str (mk ws[a])) := by
      rw [List.getElem?_map, List.getElem?_map, List.getElem?_eq_getElem ha]
      rfl
    have la := hs.2 _ (List.getElem_mem ha)
    have e0 : lead (tl (mk ws[a])) = n := hn _ (List.getElem?_eq_getElem ha)
    refine ⟨.ref p, rfl, .ref t, rfl, p, t, ws, a, m, e, n, rfl, hp, ht, hs, rc, hn, fun hR H1 s1 => ⟨.ref t, rfl, t, _, rfl, SqT.of (s1 _ _ ht), rfl, _, _, rfl, _, _, rfl, _, _, rfl, rfl, .ref p, rfl, .int (a : Int), rfl, p, _, _, .str (mk ws[a]), rfl, rfl, SqL.of (s1 _ _ hp), atI_nat hga, mk ws[a], rfl, by rw [mk_len]; omega, ?_⟩, kR⟩
    have k := k hR
    have kE := kE hR
    rw [e0]
    have ec : ∀ x y : Nat, x ≤ y → y ≤ ws.length → cutV ((ws.map mk).map V.str) (some (x : Int)) (some (y : Int)) = (((ws.drop x).take (y - x)).map mk).map V.str := fun x y hx hy => by
      rw [cutV_seg _ x y hx (by rw [hlen]; exact hy), List.map_take, List.map_take, List.map_drop, List.map_drop]
    refine ⟨⟨_, rfl⟩, .ref p, rfl, .int (a : Int), rfl, _, rfl, .int (m : Int), rfl, _, rfl, p, _, rfl, SqL.of (s1 _ _ hp), fun b nb => ?_⟩
    rw [ec a m (by omega) (by omega)]
    have lb : ∀ x y, ∀ l ∈ (ws.drop x).take (y - x), l.length ≤ 10000 := fun x y l h => hs.2 l (List.mem_of_mem_drop (List.mem_of_mem_take h))
    have ln : ∀ x y, ((ws.drop x).take (y - x)).length ≤ 10000 := fun x y => by
      rw [List.length_take, List.length_drop]
      omega
    have sb := same_new (o := .lst ((((ws.drop a).take (m - a)).map mk).map V.str)) nb
    have lb1 := lb a m
    have ln1 := ln a m
    have S1 := seg_sum ws a (m - a) (n + 4)
    have S2 := seg_len ws a (m - a) (n + 4)
    have S0 : 1 ≤ (((ws.drop a).take (m - a)).map (·.drop (n + 4))).length := by
      rw [List.length_map, List.length_take, List.length_drop]
      omega
    have l1 : ("\n" : Str).length = 1 := rfl
    have e00 : ("" : Str) = mk [] := ext_tl (by decide +kernel)
    have el0 : ("" : Str).length = 0 := by decide +kernel
    have m1 : ∀ l ∈ srcL ws a m (n + 4), (10 : Nat) ∉ l := fun l hl h => by
      obtain ⟨l', h2, rfl⟩ := seg_mem hl
      exact h10 l' h2 (List.mem_of_mem_drop h)
    have m9 : ∀ l ∈ srcL ws a m (n + 4), (9 : Nat) ∉ l := fun l hl h => by
      obtain ⟨l', h2, rfl⟩ := seg_mem hl
      exact h9 l' h2 (List.mem_of_mem_drop h)
    unfold srcL at few k kE m1 m9
    generalize (ws.drop a).take (m - a) = ra at sb lb1 ln1 S0 S1 S2 few k kE m1 m9 ⊢
    refine ⟨b, rfl, ⟨_, SqL.of upd_same⟩, fun M nM => lc_list (K := K) (a := b) (xs := (ra.map mk).map V.str) (fun i H4 => H4 M = some (rowsV (((ra.take i).map (·.drop (n + 4))).map (· ++ [10]))) ∧ Same (upd H1 b (.lst ((ra.map mk).map V.str))) H4) ⟨upd_same, same_new nM⟩ (fun i H4 _ h4 => SqL.of (h4.2 _ _ upd_same)) ?_ ?_⟩
    · rintro i v H4 hv ⟨eM, s4⟩
      obtain ⟨z, rfl, hz⟩ := str_at hv
      rw [List.getElem?_map] at hz
      obtain ⟨l, hl2, rfl⟩ := Option.map_eq_some_iff.mp hz
      have gl := lb1 l (List.mem_of_getElem? hl2)
      have ecl : cutS (mk l) (some ((n : Int) + 4)) none = mk (l.drop (n + 4)) := ext_tl (by rw [show ((n : Int) + 4) = ((n + 4 : Nat) : Int) by omega, cutS_from]; rfl)
      refine ⟨rfl, ?_⟩
      unfold tYes
      show ite (true = true) _ _
      rw [if_pos rfl]
      refine ⟨.str (mk l), rfl, .int (n : Int), rfl, _, _, rfl, rfl, _, rfl, mk l, rfl, by rw [mk_len]; exact line_of (by omega), _, _, rfl, rfl, ?_, _, eM, ?_, ?_, fun b o e => ?_⟩
      · rw [ecl, mk_len, l1, List.length_drop]
        exact line_of (by omega)
      · rw [List.length_map, List.length_map, List.length_map, List.length_map, List.length_take]
        exact Nat.lt_of_le_of_lt (show min i ra.length ≤ 10000 by omega) (by decide)
      · rw [upd_same, List.take_add_one, hl2, List.map_append, List.map_append]
        unfold rowsV
        rw [List.map_append, List.map_append, ecl]
        exact congrArg (fun v => some (HO.lst (((((ra.take i).map (·.drop (n + 4))).map (· ++ [10])).map mk).map V.str ++ [v]))) (congrArg V.str (ext_tl (by rw [tl_append]; rfl)))
      · rw [upd_ne (ne_of_none e nM)]
        exact s4 b o e
    rintro H4 ⟨eM, s4⟩
    rw [List.length_map, List.length_map, List.take_length] at eM
    generalize ra.map (·.drop (n + 4)) = sl at S0 S1 S2 few k kE m1 m9 eM
    have fl := flat_len sl
    refine ⟨"", M, (sl.map (· ++ [10])).map mk, rfl, rfl, .inl (SqL.of eM), ?_, ?_⟩
    · rw [el0, Nat.mul_zero, List.map_map]
      show ((sl.map (· ++ [10])).map (·.length)).sum + 0 ≤ _
      rw [sum_fed]
      omega
    rw [show Txt.join "" ((sl.map (· ++ [10])).map mk) = rowsT sl by rw [e00, join_mk]; rfl]
    have s14 : Same H H4 := s1.trans (sb.trans s4)
    clear s4 sb eM nb nM
    refine ⟨⟨_, rfl⟩, .ref p, rfl, .int (m : Int), rfl, _, rfl, .int (e : Int), rfl, _, rfl, p, _, rfl, SqL.of (s14 _ _ hp), fun b nb => ?_⟩
    rw [ec m e me ew]
    have sb := same_new (o := .lst ((((ws.drop m).take (e - m)).map mk).map V.str)) nb
    have lb2 := lb m e
    have ln2 := ln m e
    have S3 := seg_sum ws m (e - m) n
    have S4 := seg_len ws m (e - m) n
    have m2 : ∀ l ∈ srcL ws m e n, (10 : Nat) ∉ l := fun l hl h => by
      obtain ⟨l', h2, rfl⟩ := seg_mem hl
      exact h10 l' h2 (List.mem_of_mem_drop h)
    unfold srcL at m2
    generalize (ws.drop m).take (e - m) = ra at sb lb2 ln2 S3 S4 k m2 ⊢
    refine ⟨b, rfl, ⟨_, SqL.of upd_same⟩, fun M nM => lc_list (K := K) (a := b) (xs := (ra.map mk).map V.str) (fun i H5 => H5 M = some (rowsV (((ra.take i).map (·.drop n)).map (· ++ [10]))) ∧ Same (upd H4 b (.lst ((ra.map mk).map V.str))) H5) ⟨upd_same, same_new nM⟩ (fun i H5 _ h5 => SqL.of (h5.2 _ _ upd_same)) ?_ ?_⟩
    · rintro i v H5 hv ⟨eM, s5⟩
      obtain ⟨z, rfl, hz⟩ := str_at hv
      rw [List.getElem?_map] at hz
      obtain ⟨l, hl2, rfl⟩ := Option.map_eq_some_iff.mp hz
      have gl := lb2 l (List.mem_of_getElem? hl2)
      have ecl : cutS (mk l) (some (n : Int)) none = mk (l.drop n) := ext_tl (by rw [cutS_from]; rfl)
      refine ⟨rfl, ?_⟩
      unfold tYes
      show ite (true = true) _ _
      rw [if_pos rfl]
      refine ⟨.str (mk l), rfl, .int (n : Int), rfl, _, rfl, mk l, rfl, by rw [mk_len]; exact line_of (by omega), _, _, rfl, rfl, ?_, _, eM, ?_, ?_, fun b o e => ?_⟩
      · rw [ecl, mk_len, l1, List.length_drop]
        exact line_of (by omega)
      · rw [List.length_map, List.length_map, List.length_map, List.length_map, List.length_take]
        exact Nat.lt_of_le_of_lt (show min i ra.length ≤ 10000 by omega) (by decide)
      · rw [upd_same, List.take_add_one, hl2, List.map_append, List.map_append]
        unfold rowsV
        rw [List.map_append, List.map_append, ecl]
        exact congrArg (fun v => some (HO.lst (((((ra.take i).map (·.drop n)).map (· ++ [10])).map mk).map V.str ++ [v]))) (congrArg V.str (ext_tl (by rw [tl_append]; rfl)))
      · rw [upd_ne (ne_of_none e nM)]
        exact s5 b o e
    rintro H5 ⟨eM, s5⟩
    rw [List.length_map, List.length_map, List.take_length] at eM
    generalize ra.map (·.drop n) = wl at S3 S4 k m2 eM
    have fw := flat_len wl
    refine ⟨"", M, (wl.map (· ++ [10])).map mk, rfl, rfl, .inl (SqL.of eM), ?_, ?_⟩
    · rw [el0, Nat.mul_zero, List.map_map]
      show ((wl.map (· ++ [10])).map (·.length)).sum + 0 ≤ _
      rw [sum_fed]
      omega
    rw [show Txt.join "" ((wl.map (· ++ [10])).map mk) = rowsT wl by rw [e00, join_mk]; rfl]
    have s15 : Same H H5 := s14.trans (sb.trans s5)
    clear s5 sb eM nb nM
    have xs1 : tl (rowsT sl) = joinL [10] (sl ++ [[]]) := (join_ten sl).symm
    have xs2 : tl (rowsT wl) = joinL [10] (wl ++ [[]]) := (join_ten wl).symm
    have r1 : Rows10 (sl ++ [[]]) := fun l hl => by
      rcases List.mem_append.mp hl with h | h
      · exact m1 l h
      · rw [List.mem_singleton.mp h]
        exact nofun
    have r2 : Rows10 (wl ++ [[]]) := fun l hl => by
      rcases List.mem_append.mp hl with h | h
      · exact m2 l h
      · rw [List.mem_singleton.mp h]
        exact nofun
    have z1 : (rowsT sl).length ≤ 10000 := by
      show (mk _).length ≤ _
      rw [mk_len, fl]
      omega
    have z2 : (rowsT wl).length ≤ 10000 := by
      show (mk _).length ≤ _
      rw [mk_len, fw]
      omega
    have ro : ∀ ls : List (List Nat), rowsOf ls [] = ls := fun ls => by
      show ls ++ [] = ls
      rw [List.append_nil]
    have kp : keptOf wl [] = wl.map (· ++ [10]) := by
      show wl.map (· ++ [10]) ++ [] = _
      rw [List.append_nil]
    have n9 : (9 : Nat) ∉ tl (rowsT sl) := fun h => by
      have h1 : (9 : Nat) ∈ joinL [] (sl.map (· ++ [10])) := h
      have key : ∀ x : List (List Nat), (∀ l ∈ x, (9 : Nat) ∉ l) → (9 : Nat) ∉ joinL [] (x.map (· ++ [10])) := fun x => by
        induction x with
        | nil => exact fun _ z => by cases z
        | cons a r ih =>
          intro hx z
          rw [List.map_cons, joinL_flat] at z
          rcases List.mem_append.mp z with z | z
          · rcases List.mem_append.mp z with z | z
            · exact hx a (List.mem_cons_self ..) z
            · exact absurd (List.mem_singleton.mp z) (by decide)
          · exact ih (fun l hl => hx l (List.mem_cons_of_mem _ hl)) z
      exact key sl m9 h1
    refine ⟨.str (rowsT sl), rfl, .int (a : Int), rfl, _, _, rfl, rfl, rowsT sl, sl, [], _, rfl, xs1, r1, z1, n9, by rw [ro]; exact few, fun hall H6 o s6 no eo => ⟨.str (rowsT sl), rfl, rowsT sl, sl, [], rfl, xs1, r1, z1, fun H7 s7 => ⟨_, rfl, ?_⟩⟩, fun w hw H6 d s6 nd ed => kE ("option", w) (by unfold badP; rw [ro] at hw; rw [hw]) H6 d (s15.trans s6) (s15.free nd) ed⟩
    rw [ro] at eo hall ⊢
    have hd : OptsOk sl := ⟨hall, few⟩
    have hbw := badW_none hall
    have fk := flagKeys_opts hd
    have ea : (sl.map remL).all id = sl.all remL := by
      rw [List.all_map]
      rfl
    rw [ea]
    have s17 := s15.trans (s6.trans s7)
    have es : Txt.endswith (rowsT sl) "\n" = true := by
      obtain ⟨q, e⟩ := flat_ten sl (fun z => by rw [z] at S0; exact absurd S0 (by decide))
      unfold rowsT
      rw [e]
      exact ends_ten q
    have ew' : rowsT wl = "" ∨ Txt.endswith (rowsT wl) "\n" = true := by
      cases wl with
      | nil => exact .inl (by decide +kernel)
      | cons c r =>
        obtain ⟨q, e⟩ := flat_ten (c :: r) (by simp)
        unfold rowsT
        rw [e]
        exact .inr (ends_ten q)
    have errW : optV (errP (wl.map (· ++ [10]))) = .non ∨ ∃ e : Str, optV (errP (wl.map (· ++ [10]))) = .str e ∧ e.length ≤ 100000 := by
      cases he : errP (wl.map (· ++ [10])) with
      | none => exact .inl rfl
      | some l => exact .inr ⟨mk l, rfl, by
          have := errP_len he
          have e := sum_fed wl
          rw [mk_len]
          omega⟩
    show ite ((!sl.all remL) = true) _ _
    cases hr : sl.all remL with
    | false =>
      have k := k (by unfold badP; rw [hbw, hr]; rfl)
      refine iteT ⟨.str (rowsT sl), rfl, .str (rowsT wl), rfl, .str (rowsT wl), rfl, rowsT wl, wl, [], rfl, xs2, r2, z2, fun H8 s8 => ?_⟩
      rw [kp]
      refine ⟨.int (a : Int), rfl, _, _, rfl, rfl, .int (n : Int), rfl, .ref o, rfl, rfl, rfl, fun x dx nx ndx ne => ⟨x, dx, .ref o, optsOf sl, rowsT sl, rowsT wl, sl, [], optV (errP (wl.map (· ++ [10]))), _, _, rfl, ⟨by rw [fedS_of es]; exact xs1, r1, by omega, by rw [fedS_of es]; exact z1⟩, by omega, errW, upd_same, .inr ⟨o, rfl, ?_⟩, fk, fun H9 fs out e9 F => ⟨rfl, k H9 x dx fs (fun b' o' e' => ?_) ((s17.trans s8).free nx) (by rw [hr]; rw [fedS_of es, wantS_of ew', errS_of (err_ten wl)] at F; exact iteF ⟨e9, F⟩)⟩⟩⟩
      · have eo2 := s8 _ _ (s7 _ _ eo)
        rw [upd_ne (ne_of_none eo2 nx), upd_ne (ne_of_none eo2 ndx)]
        exact eo2
      · have e2 := (s17.trans s8) _ _ e'
        refine out _ _ ?_ (ne_of_none e2 nx)
        rw [upd_ne (ne_of_none e2 nx), upd_ne (ne_of_none e2 ndx)]
        exact e2
    | true =>
      cases hwe : (wordsAll sl).isEmpty with
      | false =>
        have ne := opts_ne (ls := sl) (fun z => by rw [z] at hwe; cases hwe)
        have eo7 := s7 _ _ eo
        refine iteF ⟨.ref o, rfl, true, .inr (.inr ⟨optsOf sl, eo7, ?_⟩), iteT ⟨.int (a : Int), rfl, _, _, rfl, rfl, .str (rowsT sl), rfl, by show 3 ≤ 1000; decide, fun x nx => ⟨x, _, "no example", rowsT sl, rfl, upd_same, fun H8 d k1 nd nda k2 k3 => ⟨rfl, d, _, k2, k3, ?_, ?_⟩⟩⟩⟩
        · cases ho : optsOf sl with
          | nil => exact absurd ho ne
          | cons _ _ => rfl
        · rw [← upd_ne (H := H7) (a := x) (o := exo x C_BadText none) nda]
          exact nd
        · have nd7 : H7 d = none := by
            rw [← upd_ne (H := H7) (a := x) (o := exo x C_BadText none) nda]
            exact nd
          refine kE ("no example", rowsT sl) (by unfold badP; rw [hbw, hr, hwe]; rfl) _ d (fun b o e => ?_) (s17.free nd7) upd_same
          have e7 := s17 _ _ e
          have bx : b ≠ x := ne_of_none e7 nx
          rw [upd_ne (ne_of_none e7 nd7), del_ne bx]
          exact k1 _ _ (by rw [upd_ne bx]; exact e7) bx
      | true =>
      have k := k (by unfold badP; rw [hbw, hr, hwe]; rfl)
      rw [show optsOf sl = [] from by unfold optsOf; rw [List.isEmpty_iff.mp hwe]; rfl] at eo
      refine iteF ⟨.ref o, rfl, false, .inr (.inr ⟨[], s7 _ _ eo, rfl⟩), iteF ⟨.str (rowsT sl), rfl, .str (rowsT wl), rfl, .int (a : Int), rfl, _, _, rfl, rfl, .int (n : Int), rfl, rfl, rfl, fun x dx nx ndx ne => ⟨x, dx, rowsT sl, rowsT wl, _, _, rfl, by omega, by omega, upd_same, fun H9 fs out e9 F => ⟨rfl, k H9 x dx fs (fun b' o' e' => ?_) (s17.free nx) (by rw [hr]; rw [fedS_of es, wantS_of ew'] at F; exact iteT ⟨e9, F⟩)⟩⟩⟩⟩
      have e2 := s17 _ _ e'
      refine out _ _ ?_ (ne_of_none e2 nx)
      rw [upd_ne (ne_of_none e2 nx), upd_ne (ne_of_none e2 ndx)]
      exact e2
def ldAt (ws : List (List Nat)) (a : Nat) : Nat := lead (ws.getD a [])
/-- what a cut becomes -/
def PieceIs (C D : Addr) (ws : List (List Nat)) (H : Hp) (c : Nat × Nat × Nat) (v : V) : Prop := ∃ (q dx : Addr) (fs : List (Str × V)), v = .ref q ∧
  if (srcL ws c.1 c.2.1 (ldAt ws c.1 + 4)).all remL = true then H q = some (.ins D dx fs) ∧ CoF fs (rowsT (srcL ws c.1 c.2.1 (ldAt ws c.1 + 4))) (rowsT (srcL ws c.2.1 c.2.2 (ldAt ws c.1))) ((c.1 + 1 : Nat) : Int) (ldAt ws c.1 : Int)
  else H q = some (.ins C dx fs) ∧ ExF H fs (rowsT (srcL ws c.1 c.2.1 (ldAt ws c.1 + 4))) (rowsT (srcL ws c.2.1 c.2.2 (ldAt ws c.1))) (optV (errP ((srcL ws c.2.1 c.2.2 (ldAt ws c.1)).map (· ++ [10])))) ((c.1 + 1 : Nat) : Int) (ldAt ws c.1 : Int) (bareT (srcL ws c.1 c.2.1 (ldAt ws c.1 + 4)) []) (optsOf (srcL ws c.1 c.2.1 (ldAt ws c.1 + 4)))
def PcsAt (C D : Addr) (ws : List (List Nat)) (H : Hp) : List V → List (Str ⊕ (Nat × Nat × Nat)) → Prop
  | [], [] => True
  | v :: vs, .inl x :: ps => v = .str x ∧ PcsAt C D ws H vs ps
  | v :: vs, .inr c :: ps => PieceIs C D ws H c v ∧ PcsAt C D ws H vs ps
  | _, _ => False
/-- all but lists stand as before -/
def NL (H H' : Hp) : Prop := ∀ b o, H b = some o → (∀ xs, o ≠ .lst xs) → H' b = some o
theorem NL.same {H H' : Hp} (s : Same H H') : NL H H' := fun b o e _ => s b o e
theorem NL.upd {H : Hp} {C : Addr} {xs ys : List V} (e : H C = some (.lst xs)) : NL H (L2.upd H C (.lst ys)) := fun b o eb n => by
  rw [upd_ne (fun z => by rw [z, e] at eb; exact n xs (Option.some.inj eb).symm)]
  exact eb
theorem PieceIs.nl {C D : Addr} {ws : List (List Nat)} {H H' : Hp} {c : Nat × Nat × Nat} {v : V} (s : NL H H') (h : PieceIs C D ws H c v) : PieceIs C D ws H' c v := by
  obtain ⟨q, dx, fs, e, k⟩ := h
  refine ⟨q, dx, fs, e, ?_⟩
  split at k
  · rename_i hr
    rw [hr]
    exact iteT ⟨s _ _ k.1 nofun, k.2⟩
  · rename_i hr
    rw [(Bool.not_eq_true _).mp hr]
    obtain ⟨o, o1, o2⟩ := k.2.options
    exact iteF ⟨s _ _ k.1 nofun, k.2.source, k.2.want, k.2.error, k.2.line, k.2.indent, ⟨o, o1, s _ _ o2 nofun⟩, k.2.bare⟩
theorem PcsAt.nl {C D : Addr} {ws : List (List Nat)} {H H' : Hp} (s : NL H H') : ∀ {vs : List V} {ps : List (Str ⊕ (Nat × Nat × Nat))}, PcsAt C D ws H vs ps → PcsAt C D ws H' vs ps
  | [], [], _ => trivial
  | _ :: _, .inl _ :: _, h => ⟨h.1, PcsAt.nl s h.2⟩
  | _ :: _, .inr _ :: _, h => ⟨h.1.nl s, PcsAt.nl s h.2⟩
  | [], .inl _ :: _, h => h.elim
  | [], .inr _ :: _, h => h.elim
  | _ :: _, [], h => h.elim
theorem PcsAt.app {C D : Addr} {ws : List (List Nat)} {H : Hp} {us : List V} {qs : List (Str ⊕ (Nat × Nat × Nat))} (k : PcsAt C D ws H us qs) : ∀ {vs : List V} {ps : List (Str ⊕ (Nat × Nat × Nat))}, PcsAt C D ws H vs ps → PcsAt C D ws H (vs ++ us) (ps ++ qs)
  | [], [], _ => k
  | _ :: _, .inl _ :: _, h => ⟨h.1, PcsAt.app k h.2⟩
  | _ :: _, .inr _ :: _, h => ⟨h.1, PcsAt.app k h.2⟩
  | [], .inl _ :: _, h => h.elim
  | [], .inr _ :: _, h => h.elim
  | _ :: _, [], h => h.elim
theorem PcsAt.txt {C D : Addr} {ws : List (List Nat)} {H : Hp} (x : Str) : PcsAt C D ws H [.str x] [.inl x] := ⟨rfl, trivial⟩
theorem PcsAt.pc {C D : Addr} {ws : List (List Nat)} {H : Hp} {c : Nat × Nat × Nat} {v : V} (h : PieceIs C D ws H c v) : PcsAt C D ws H [v] [.inr c] := ⟨h, trivial⟩
theorem PcsAt.len {C D : Addr} {ws : List (List Nat)} {H : Hp} : ∀ {vs : List V} {ps : List (Str ⊕ (Nat × Nat × Nat))}, PcsAt C D ws H vs ps → vs.length = ps.length
  | [], [], _ => rfl
  | _ :: _, .inl _ :: _, h => congrArg Nat.succ (PcsAt.len h.2)
  | _ :: _, .inr _ :: _, h => congrArg Nat.succ (PcsAt.len h.2)
  | [], .inl _ :: _, h => h.elim
  | [], .inr _ :: _, h => h.elim
  | _ :: _, [], h => h.elim
/-- a stretch of text, if there is one -/
theorem exp_tab (n : Nat) : ∀ {l : List Nat} (col : Nat), (9 : Nat) ∉ Mun.expT n col l
  | [], col, h => by cases h
  | c :: r, col, h => by
    by_cases h9 : c = 9
    · rw [Mun.expT, if_pos h9] at h
      rcases List.mem_append.mp h with h | h
      · exact absurd (List.eq_of_mem_replicate h) (by decide)
      · exact exp_tab n _ h
    · rw [Mun.expT, if_neg h9] at h
      split at h
      · rcases List.mem_cons.mp h with h | h
        · exact h9 h.symm
        · exact exp_tab n _ h
      · rcases List.mem_cons.mp h with h | h
        · exact h9 h.symm
        · exact exp_tab n _ h
def gapP (kept : List (List Nat)) (b e : Nat) : List (Str ⊕ (Nat × Nat × Nat)) := if b < e then [.inl (mk (joinL [] ((kept.drop b).take (e - b))))] else []
/-- the pieces of cuts, from a place on -/
def piecesL (kept : List (List Nat)) : Nat → List (Nat × Nat × Nat) → List (Str ⊕ (Nat × Nat × Nat))
  | b, [] => gapP kept b kept.length
  | b, c :: r => gapP kept b c.1 ++ (.inr c :: piecesL kept c.2.2 r)
/-- a text whose cuts are right, its directives, too -/
structure Whole (x : Str) (ls init : List (List Nat)) (last : List Nat) : Prop where
  eq : tl x = joinL [10] ls
  ne : ls ≠ []
  sg : ∀ l ∈ ls, ∀ c ∈ l, c ≠ 10 ∧ c ≠ 13
  lx : (tl x).length ≤ 9000
  lev : levW (ls.map (Mun.expT 8 0)) = init ++ [last]
  sz : (joinL [10] (init ++ [last])).length ≤ 9000
  right : ∀ c ∈ cutsL (rowsOf init last) 0, WkCut (rowsOf init last) c.1 c.2.1 c.2.2 ∧ (wordsAll (srcL (rowsOf init last) c.1 c.2.1 (ldAt (rowsOf init last) c.1 + 4))).length ≤ 100000
/-- what is wrong of the first wrong one of some cuts: its line, the reason, what was found -/
def badC (rows : List (List Nat)) (c : Nat × Nat × Nat) : Option (Int × Str × Str) := match badR rows c.1 c.2.1 c.2.2 (ldAt rows c.1) with
  | some x => some ((x.1 : Int) + 1, x.2.1, x.2.2)
  | none => match badP (srcL rows c.1 c.2.1 (ldAt rows c.1 + 4)) with
    | some rf => some ((c.1 : Int) + 1, rf.1, rf.2)
    | none => none
def badAll (rows : List (List Nat)) : List (Nat × Nat × Nat) → Option (Int × Str × Str)
  | [] => none
  | c :: r => match badC rows c with
    | some x => some x
    | none => badAll rows r
def sp_parsed (C D B : Addr) : Sp := fun vs H Q E => ∃ (x : Str) (ls init : List (List Nat)) (last : List Nat), vs = [.str x] ∧ Whole x ls init last ∧
  (badAll (rowsOf init last) (cutsL (rowsOf init last) 0) = none → ∀ (H' : Hp) (L : Addr) (us : List V), Same H H' → H L = none → H' L = some (.lst us) → PcsAt C D (rowsOf init last) H' us (piecesL (keptOf init last) 0 (cutsL (rowsOf init last) 0)) → Q (.ref L) H') ∧
  ∀ n r f, badAll (rowsOf init last) (cutsL (rowsOf init last) 0) = some (n, r, f) → ∀ (H' : Hp) (d : Addr), Same H H' → H d = none → H' d = some (.xd [("found", .str f), ("reason", .str r), ("line", .int n)]) → E (.ref B) (some d) H'
theorem ok_parsed {f : Addr} {fd : FuncData} {dvs : List V} (F : Fn K "parsed" s_parsed dvs f fd) {C_Example : Addr} (T_Example : Txt_Example K mg C_Example) {C_Comment : Addr} (T_Comment : Txt_Comment K mg C_Comment) {C_BadText : Addr} (T_BadText : Err_BadText K mg C_BadText) (O_levelled : Own P w K mg base "levelled" 2 ["text"] [] (sp_levelled)) (O_kept_lines : Own P w K mg base "kept_lines" 1 ["text"] [] (sp_kept_lines)) (O_lines_of : Own P w K mg base "lines_of" 2 ["text"] [] (sp_lines_of)) (O_cuts_of : Own P w K mg base "cuts_of" 3 ["lines"] [] (sp_cuts_of)) (O_piece_at : OwnX P w K mg base "piece_at" 6 ["lines", "cut"] [] (sp_piece_at C_Example C_Comment C_BadText)) (m_len : mg "len" = none) : FnOk P w K mg base (L2.CX P w) 7 f fd ["text"] (sp_parsed C_Example C_Comment C_BadText) := by
  refine Fn.okX F sc_parsed (fun vs H Q E h => ?_) (fun cdv A outer s H vs Q E hr h => ?_)
  · obtain ⟨_, _, _, _, rfl, _⟩ := h
    rfl
  · obtain ⟨x, ls, init, last, rfl, wh, k, kE⟩ := h
    refine ⟨_, (pss_cons (ps_set (i := 1) sc_parsed.nd rfl (.inl rfl) (pe_own O_levelled (hr.mono (by decide)) (by rfl) (pa_cons (pv 0) pa_nil)))
      (pss_cons (ps_set (i := 2) sc_parsed.nd rfl (.inl rfl) (pe_own O_kept_lines (hr.mono (by decide)) (by rfl) (pa_cons (pv 1) pa_nil)))
      (pss_cons (ps_set (i := 3) sc_parsed.nd rfl (.inl rfl) (pe_own O_lines_of (hr.mono (by decide)) (by rfl) (pa_cons (pv 1) pa_nil)))
      (pss_cons (ps_set (i := 4) sc_parsed.nd rfl (.inl rfl) (pe_lst pa_nil))
      (pss_cons (ps_set (i := 5) sc_parsed.nd rfl (.inl rfl) pe_int)
      (pss_cons (ps_for (passes_of rfl) rfl (pi_list (pe_own O_cuts_of (hr.mono (by decide)) (by rfl) (pa_cons (pv 3) pa_nil))) (pg_name (i := 6) sc_parsed.nd rfl (.inl rfl))
          (pss_cut (ps_if (pt_cmpR op_lt (pv 5) (pe_ix ix_tup (pv 6) pe_int (fun _ _ => rfl)) (nomark _))
                (pss_one (ps_expr (pe_bm PySem.F.plainAttrs_list PySem.F.slot_list_append PySem.F.type_list_append mt_append (pv 4) (pa_cons (pe_m1 PySem.F.slot_str_join PySem.F.type_str_join mt_join pe_str (pe_slice sl_list (pv 2) (po_some (pv 5)) (po_some (pe_ix ix_tup (pv 6) pe_int (fun _ _ => rfl))))) pa_nil))))
                pss_nil)
            (pss_cons (ps_expr (pe_bm PySem.F.plainAttrs_list PySem.F.slot_list_append PySem.F.type_list_append mt_append (pv 4) (pa_cons (pe_ownX O_piece_at (hr.mono (by decide)) (takes_of rfl rfl rfl rfl) (fun _ _ _ _ h => h) (by rfl) (pa_cons (pv 3) (pa_cons (pv 6) pa_nil))) pa_nil)))
            (pss_one (ps_set (i := 5) sc_parsed.nd rfl (.inl rfl) (pe_ix ix_tup (pv 6) pe_int (fun _ _ => rfl)))))))
      (pss_cut (ps_if (pt_cmpR op_lt (pv 5) (pe_callB call_len_seq (by rfl) m_len PySem.boot_len (pa_cons (pv 2) pa_nil)) (nomark _))
          (pss_one (ps_expr (pe_bm PySem.F.plainAttrs_list PySem.F.slot_list_append PySem.F.type_list_append mt_append (pv 4) (pa_cons (pe_m1 PySem.F.slot_str_join PySem.F.type_str_join mt_join pe_str (pe_slice sl_list (pv 2) (po_some (pv 5)) po_none)) pa_nil))))
          pss_nil)
      (pss_one (ps_ret (pv 4)))))))))), ?_⟩
    have lx := wh.lx
    have xe : tl (mk (joinL [10] (init ++ [last]))) = joinL [10] (init ++ [last]) := rfl
    have h10 : Rows10 (init ++ [last]) := fun l hl h => by
      rw [← wh.lev] at hl
      unfold levW at hl
      obtain ⟨l', h1, rfl⟩ := List.mem_map.mp hl
      obtain ⟨l2, h2, rfl⟩ := List.mem_map.mp h1
      exact exp_no 8 0 (by decide) (fun z => (wh.sg l2 h2 10 z).1 rfl) (List.mem_of_mem_drop h)
    have r9 : ∀ l ∈ rowsOf init last, (9 : Nat) ∉ l := fun l hl0 h => by
      have hl := rows_mem hl0
      rw [← wh.lev] at hl
      unfold levW at hl
      obtain ⟨l', h1, rfl⟩ := List.mem_map.mp hl
      obtain ⟨l2, h2, rfl⟩ := List.mem_map.mp h1
      exact exp_tab 8 0 (List.mem_of_mem_drop h)
    have xl : (mk (joinL [10] (init ++ [last]))).length ≤ 10000 := by
      rw [mk_len]
      have := wh.sz
      omega
    have ksum := kept_sum init last
    have hsz := wh.sz
    obtain ⟨rb, rn, rs⟩ := rows_bound xe xl
    have right := wh.right
    have kn : (keptOf init last).length = (rowsOf init last).length := by
      unfold keptOf rowsOf
      rw [List.length_append, List.length_append, List.length_map]
    have r10 : Rows10 (rowsOf init last) := fun l hl => by
      rcases List.mem_append.mp hl with h | h
      · exact h10 l (List.mem_append_left _ h)
      · unfold ifAny at h
        split at h
        · cases h
        · exact h10 l (List.mem_append_right _ h)
    have rs2 : ((rowsOf init last).map (·.length)).sum + (rowsOf init last).length ≤ 9001 := by
      have jl := joinL_len [10] (ps := init ++ [last]) (by simp)
      have e1 : ([10] : List Nat).length = 1 := rfl
      rw [e1, List.map_append, List.sum_append, List.length_append] at jl
      have c1 : ([last].map (·.length)).sum = last.length := by
        show last.length + 0 = _
        omega
      have l1 : [last].length = 1 := rfl
      rw [c1, l1] at jl
      unfold rowsOf ifAny
      rw [List.map_append, List.sum_append, List.length_append]
      split
      · show _ + 0 + (_ + 0) ≤ _
        omega
      · rw [c1, l1]
        omega
    refine ⟨.str x, rfl, x, ls, rfl, wh.eq, wh.ne, wh.sg, by omega, fun H1 s1 => ?_⟩
    rw [wh.lev]
    refine ⟨.str _, rfl, _, init, last, rfl, xe, h10, xl, fun H2 p2 s2 n2 e2 => ⟨.str _, rfl, _, init, last, rfl, xe, h10, xl, fun H3 p3 s3 n3 e3 => ⟨by show 0 ≤ sizeLine; decide, fun C nC => ?_⟩⟩⟩
    generalize mk (joinL [10] (init ++ [last])) = X at *
    generalize rowsOf init last = rows at *
    generalize keptOf init last = kept at *
    have hs : Short rows := ⟨by omega, rb⟩
    have sC := same_new (o := .lst []) nC
    have eC := upd_same (H := H3) (a := C) (o := .lst [])
    have nCH : H C = none := (s1.trans (s2.trans s3)).free nC
    refine ⟨.ref p3, rfl, p3, rows, rfl, sC _ _ e3, hs, fun H4 q ts s4 nq eq hc => ⟨q, rfl, ⟨_, SqL.of eq⟩, ?_⟩⟩
    have cl := cutsL_len rows rows.length 0 (by omega)
    have eC4 := s4 _ _ eC
    have qC : q ≠ C := fun e => by
      rw [e] at nq
      rw [eC] at nq
      cases nq
    have sH4 : Same H H4 := s1.trans (s2.trans (s3.trans (sC.trans s4)))
    have e24 := s4 _ _ (sC _ _ (s3 _ _ e2))
    have e34 := s4 _ _ (sC _ _ e3)
    have p2C : p2 ≠ C := ne_of_none (s3 _ _ e2) nC
    have p3C : p3 ≠ C := ne_of_none e3 nC
    generalize cutsL rows 0 = cuts at right k kE hc cl
    have hlen : ((kept.map mk).map V.str).length = kept.length := by rw [List.length_map, List.length_map]
    have el0 : ("" : Str).length = 0 := by decide +kernel
    have e00 : ("" : Str) = mk [] := ext_tl (by decide +kernel)
    have jsz : ∀ a n, ((((kept.drop a).take n).map mk).map (·.length)).sum + (((kept.drop a).take n).map mk).length * ("" : Str).length ≤ 16777216 := fun a n => by
      have h := seg_sum kept a n 0
      have hz : (((kept.drop a).take n).map (·.drop 0)) = (kept.drop a).take n := List.map_id _
      rw [hz] at h
      rw [el0, Nat.mul_zero, List.map_map]
      show (((kept.drop a).take n).map (·.length)).sum + 0 ≤ _
      omega
    have jtx : ∀ rs : List (List Nat), Txt.join "" (rs.map mk) = mk (joinL [] rs) := fun rs => by rw [e00, join_mk]
    refine for_list (K := K) (a := q) (xs := ts.map V.ref) (fun i σ H' => ∃ (v6 : Option V) (b : Nat) (us : List V) (ps : List (Str ⊕ (Nat × Nat × Nat))), σ = [some (.str x), some (.str X), some (.ref p2), some (.ref p3), some (.ref C), some (.int (b : Int)), v6] ∧ (∀ a o, a ≠ C → H4 a = some o → H' a = some o) ∧ H' C = some (.lst us) ∧ PcsAt C_Example C_Comment rows H' us ps ∧ ps ++ piecesL kept b (cuts.drop i) = piecesL kept 0 cuts ∧ us.length ≤ 2 * i ∧ badAll rows (cuts.drop i) = badAll rows cuts) ⟨_, 0, [], [], rfl, fun _ _ _ e => e, eC4, trivial, rfl, Nat.zero_le _, rfl⟩ (fun i σ H' _ h => by
      obtain ⟨_, _, _, _, _, ks, _⟩ := h
      exact SqL.of (ks _ _ qC eq)) ?_ ?_
    · rintro i v σ H' hv ⟨v6, b, us, ps, rfl, ks, eL, hp', he, hul, hba⟩
      rw [List.getElem?_map] at hv
      obtain ⟨t, ht, rfl⟩ := Option.map_eq_some_iff.mp hv
      obtain ⟨c, hcut, hct⟩ := hc.get ht
      have hi : i < cuts.length := (List.getElem?_eq_some_iff.mp hcut).1
      have hci : cuts[i] = c := by
        rw [List.getElem?_eq_getElem hi] at hcut
        exact Option.some.inj hcut
      have hd : cuts.drop i = c :: cuts.drop (i + 1) := by rw [List.drop_eq_getElem_cons hi, hci]
      rw [hd] at he hba
      obtain ⟨rc, nd⟩ := right c (List.mem_of_getElem? hcut)
      have tC' : t ≠ C := fun e => by
        rw [e, eC4] at hct
        cases hct
      have am := rc.am
      have me := rc.me
      have ew := rc.ew
      have et := ks _ _ tC' hct
      refine ⟨fun σ' H'' => ∃ us' : List V, σ' = [some (.str x), some (.str X), some (.ref p2), some (.ref p3), some (.ref C), some (.int (b : Int)), some (.ref t)] ∧ (∀ a o, a ≠ C → H4 a = some o → H'' a = some o) ∧ H'' C = some (.lst us') ∧ PcsAt C_Example C_Comment rows H'' us' (ps ++ gapP kept b c.1) ∧ us'.length ≤ 2 * i + 1, ⟨.int (b : Int), rfl, .ref t, rfl, t, _, 0, .int (c.1 : Int), rfl, rfl, SqT.of et, atI_nat (j := 0) rfl, _, _, rfl, rfl, _, rfl, ?_⟩, ?_⟩
      · by_cases hb : b < c.1
        · rw [decide_eq_true (by omega)]
          refine iteT ⟨.ref C, rfl, .inl ⟨rfl, _, SqL.of eL⟩, ⟨_, rfl⟩, .ref p2, rfl, .int (b : Int), rfl, _, rfl, .ref t, rfl, t, _, 0, .int (c.1 : Int), rfl, rfl, SqT.of et, atI_nat (j := 0) rfl, _, rfl, p2, _, rfl, SqL.of (ks _ _ p2C e24), fun y ny => ?_⟩
          have ecv : cutV ((kept.map mk).map V.str) (some (b : Int)) (some (c.1 : Int)) = (((kept.drop b).take (c.1 - b)).map mk).map V.str := by
            rw [cutV_seg _ b c.1 (by omega) (by rw [hlen]; omega), List.map_take, List.map_take, List.map_drop, List.map_drop]
          rw [ecv]
          have sy := same_new (o := .lst ((((kept.drop b).take (c.1 - b)).map mk).map V.str)) ny
          refine ⟨"", y, ((kept.drop b).take (c.1 - b)).map mk, rfl, rfl, .inl (SqL.of upd_same), jsz _ _, C, us, _, rfl, rfl, sy _ _ eL, Nat.lt_of_le_of_lt (show us.length ≤ 100000 by omega) (by decide), us ++ [.str (mk (joinL [] ((kept.drop b).take (c.1 - b))))], rfl, fun z o zn ez => ?_, ?_, ?_, ?_⟩
          · rw [upd_ne zn]
            exact sy _ _ (ks _ _ zn ez)
          · rw [upd_same, jtx]
          · unfold gapP
            rw [if_pos hb]
            exact PcsAt.app (PcsAt.txt _) ((hp'.nl (NL.same sy)).nl (NL.upd (sy _ _ eL)))
          · rw [List.length_append]
            show us.length + 1 ≤ _
            omega
        · rw [decide_eq_false (by omega)]
          refine iteF ⟨us, rfl, ks, eL, ?_, by omega⟩
          unfold gapP
          rw [if_neg hb, List.append_nil]
          exact hp'
      rintro σ' H'' ⟨us', rfl, ks', eL', hp'', hul'⟩
      have et' := ks' _ _ tC' hct
      refine ⟨.ref C, rfl, .inl ⟨rfl, _, SqL.of eL'⟩, .ref p3, rfl, .ref t, rfl, p3, t, rows, c.1, c.2.1, c.2.2, ldAt rows c.1, rfl, ks' _ _ p3C e34, et', hs, rc, r10, by omega, fun l hl => ?_, r9, nd, fun hbR hbn H5 q' dx fs s5 nq' hpc => ⟨C, us', .ref q', rfl, rfl, s5 _ _ eL', Nat.lt_of_le_of_lt (show us'.length ≤ 100000 by omega) (by decide), .ref t, rfl, t, [.int (c.1 : Int), .int (c.2.1 : Int), .int (c.2.2 : Int)], 2, .int (c.2.2 : Int), rfl, rfl, SqT.of ?_, atI_nat (j := 2) rfl, _, c.2.2, us' ++ [.ref q'], (ps ++ gapP kept b c.1) ++ [.inr c], rfl, fun z o zn ez => ?_, upd_same, ?_, ?_, ?_, ?_⟩, fun hbR rf hrf H5 dd s5 nd5 ed5 => kE ((c.1 : Int) + 1) rf.1 rf.2 (by rw [← hba]; unfold badAll badC; rw [show badR rows c.1 c.2.1 c.2.2 (ldAt rows c.1) = none from hbR]; dsimp only; rw [show badP (srcL rows c.1 c.2.1 (ldAt rows c.1 + 4)) = some rf from hrf]) H5 dd (fun z o ez => s5 _ _ (ks' _ _ (ne_of_none ez nCH) (sH4 _ _ ez))) (by
        cases h : H dd with
        | none => rfl
        | some o =>
          rw [ks' _ _ (ne_of_none h nCH) (sH4 _ _ h)] at nd5
          cases nd5) ed5, fun j2 r2 f2 hbR H5 dd s5 nd5 ed5 => kE ((j2 : Int) + 1) r2 f2 (by rw [← hba]; unfold badAll badC; rw [show badR rows c.1 c.2.1 c.2.2 (ldAt rows c.1) = some (j2, r2, f2) from hbR]) H5 dd (fun z o ez => s5 _ _ (ks' _ _ (ne_of_none ez nCH) (sH4 _ _ ez))) (by
        cases h : H dd with
        | none => rfl
        | some o =>
          rw [ks' _ _ (ne_of_none h nCH) (sH4 _ _ h)] at nd5
          cases nd5) ed5⟩
      · unfold ldAt
        rw [List.getD_eq_getElem?_getD, hl]
        rfl
      · rw [upd_ne tC']
        exact s5 _ _ et'
      · rw [upd_ne zn]
        exact s5 _ _ (ks' _ _ zn ez)
      · have pi : PieceIs C_Example C_Comment rows H5 c (.ref q') := ⟨q', dx, fs, rfl, hpc⟩
        exact PcsAt.app (PcsAt.pc (pi.nl (NL.upd (s5 _ _ eL')))) ((hp''.nl (NL.same s5)).nl (NL.upd (s5 _ _ eL')))
      · rw [List.append_assoc, List.append_assoc]
        exact he
      · rw [List.length_append]
        show us'.length + 1 ≤ _
        omega
      · rw [← hba, badAll]
        unfold badC
        rw [show badR rows c.1 c.2.1 c.2.2 (ldAt rows c.1) = none from hbR]
        dsimp only
        rw [show badP (srcL rows c.1 c.2.1 (ldAt rows c.1 + 4)) = none from hbn]
    · rintro σ H' ⟨v6, b, us, ps, rfl, ks, eL, hp', he, hul, hba⟩
      rw [List.length_map, hc.len] at he hul hba
      rw [List.drop_length] at he hba
      refine ⟨fun σ' H'' => ∃ us' : List V, σ' = [some (.str x), some (.str X), some (.ref p2), some (.ref p3), some (.ref C), some (.int (b : Int)), v6] ∧ (∀ a o, a ≠ C → H4 a = some o → H'' a = some o) ∧ H'' C = some (.lst us') ∧ PcsAt C_Example C_Comment rows H'' us' (ps ++ gapP kept b kept.length), ⟨.int (b : Int), rfl, .ref p2, rfl, p2, _, rfl, .inl (SqL.of (ks _ _ p2C e24)), _, _, rfl, rfl, _, rfl, ?_⟩, ?_⟩
      · rw [hlen]
        by_cases hb : b < kept.length
        · rw [decide_eq_true (by omega)]
          refine iteT ⟨.ref C, rfl, .inl ⟨rfl, _, SqL.of eL⟩, ⟨_, rfl⟩, .ref p2, rfl, .int (b : Int), rfl, _, rfl, p2, _, rfl, SqL.of (ks _ _ p2C e24), fun y ny => ?_⟩
          have ecv : cutV ((kept.map mk).map V.str) (some (b : Int)) none = (((kept.drop b).take (kept.length - b)).map mk).map V.str := by
            rw [cutV_drop _ _ (by rw [hlen]; omega), List.take_of_length_le (by rw [List.length_drop]; exact Nat.le_refl _), List.map_drop, List.map_drop]
          rw [ecv]
          have sy := same_new (o := .lst ((((kept.drop b).take (kept.length - b)).map mk).map V.str)) ny
          refine ⟨"", y, ((kept.drop b).take (kept.length - b)).map mk, rfl, rfl, .inl (SqL.of upd_same), jsz _ _, C, us, _, rfl, rfl, sy _ _ eL, Nat.lt_of_le_of_lt (show us.length ≤ 100000 by omega) (by decide), us ++ [.str (mk (joinL [] ((kept.drop b).take (kept.length - b))))], rfl, fun z o zn ez => ?_, ?_, ?_⟩
          · rw [upd_ne zn]
            exact sy _ _ (ks _ _ zn ez)
          · rw [upd_same, jtx]
          · unfold gapP
            rw [if_pos hb]
            exact PcsAt.app (PcsAt.txt _) ((hp'.nl (NL.same sy)).nl (NL.upd (sy _ _ eL)))
        · rw [decide_eq_false (by omega)]
          refine iteF ⟨us, rfl, ks, eL, ?_⟩
          unfold gapP
          rw [if_neg hb, List.append_nil]
          exact hp'
      rintro σ' H'' ⟨us', rfl, ks', eL', hp''⟩
      refine ⟨.ref C, rfl, k hba.symm _ C us' (fun z o ez => ks' _ _ (ne_of_none ez nCH) (sH4 _ _ ez)) nCH eL' ?_⟩
      rw [← he]
      exact hp''
end

/-! ### texts of parts -/
theorem lstrip_tl (x : Str) (goes : Nat → Bool) : tl (Txt.stripBy goes true false x) = (tl x).drop ((tl x).takeWhile goes).length := by
  have hl := lstrip_len x goes
  rw [stripBy_eq] at hl ⊢
  have hh : stripHi goes false x (stripLo goes true x) = x.length := rfl
  rw [hh] at hl ⊢
  obtain ⟨h1, _, _⟩ := lo_facts goes x
  have l1 : (Builtin.Str.strSub x (stripLo goes true x) x.length).length = x.length - stripLo goes true x := by
    rw [len_tl, tl_strSub, List.length_take, List.length_drop, ← len_tl]
    omega
  rw [l1] at hl
  have l2 := (List.takeWhile_sublist (l := tl x) goes).length_le
  rw [← len_tl] at l2
  have e : stripLo goes true x = ((tl x).takeWhile goes).length := by omega
  rw [tl_strSub, e]
  exact List.take_of_length_le (by rw [List.length_drop, ← len_tl]; exact Nat.le_refl _)
theorem lstrip_sp (l : List Nat) : Txt.lstripChars (mk l) " " = mk (l.drop (lead l)) := by
  refine ext_tl ?_
  rw [sp_one]
  unfold Txt.lstripChars
  rw [contains_one, lstrip_tl]
  rfl
theorem bg_eq (l : List Nat) {y : List Nat} (hy : y ≠ []) : bg (mk l) (mk y) = pre y (l.drop (lead l)) := by
  unfold bg
  rw [lstrip_sp]
  exact starts_pre _ hy
def P3 : List Nat := [62, 62, 62]
def D3 : List Nat := [46, 46, 46]
theorem gt3 : (">>>" : Str) = mk P3 := ext_tl (by decide +kernel)
theorem dots3 : ("..." : Str) = mk D3 := ext_tl (by decide +kernel)
theorem bgP (l : List Nat) : bg (mk l) ">>>" = pre P3 (l.drop (lead l)) := by
  rw [gt3]
  exact bg_eq l (by decide)
theorem pS_eq (l : List Nat) : pS l = pre D3 (l.drop (lead l)) := by
  unfold pS
  rw [dots3]
  exact bg_eq l (by decide)
def sps (n : Nat) : List Nat := List.replicate n 32
theorem lead_sps (n : Nat) (l : List Nat) : lead (sps n ++ l) = n + lead l := by
  induction n with
  | zero =>
    show lead ([] ++ l) = 0 + lead l
    rw [List.nil_append, Nat.zero_add]
  | succ n ih =>
    unfold sps at ih ⊢
    rw [List.replicate_succ, List.cons_append]
    unfold lead at ih ⊢
    rw [List.takeWhile_cons, if_pos (by decide), List.length_cons, ih]
    omega
theorem drop_sps (n : Nat) (l : List Nat) : (sps n ++ l).drop (lead (sps n ++ l)) = l.drop (lead l) := by
  rw [lead_sps, ← List.drop_drop]
  congr 1
  have e : (sps n).length = n := List.length_replicate
  rw [List.drop_append_of_le_length (by omega), List.drop_of_length_le (by omega), List.nil_append]
theorem drop_pre (n k : Nat) (l : List Nat) : (sps n ++ l).drop (n + k) = l.drop k := by
  rw [← List.drop_drop]
  congr 1
  have e : (sps n).length = n := List.length_replicate
  rw [List.drop_append_of_le_length (by omega), List.drop_of_length_le (by omega), List.nil_append]
theorem lead_ne {c : Nat} (l : List Nat) (h : (c == 32) = false) : lead (c :: l) = 0 := by
  unfold lead
  rw [List.takeWhile_cons, h]
  rfl
/-- a part of a text: lines of text; or an example or a comment (c) at an indent: its source lines with what stands behind their prompts, its expected lines -/
inductive NP where
  | txt (ls : List (List Nat))
  | ex (c : Bool) (D : Nat) (ss : List (List Nat × List Nat)) (ws : List (List Nat))
def srow (D : Nat) (p b : List Nat) : List Nat := sps D ++ (p ++ b)
def srows (D : Nat) : List (List Nat × List Nat) → List (List Nat)
  | [] => []
  | p :: r => srow D P3 p.2 :: r.map fun q => srow D D3 q.2
theorem srows_len (D : Nat) (ss : List (List Nat × List Nat)) : (srows D ss).length = ss.length := by
  cases ss with
  | nil => rfl
  | cons p r =>
    show (r.map _).length + 1 = r.length + 1
    rw [List.length_map]
def NP.rows : NP → List (List Nat)
  | .txt ls => ls
  | .ex _ D ss ws => srows D ss ++ ws.map (sps D ++ ·)
/-- a source line without a directive -/
def plainS (l : List Nat) : Prop := dirS (mk l) = "" ∧ bareS l = tl (Txt.rstripChars (mk l) " ")
def BOk (p : List Nat × List Nat) : Prop := p.2 = 32 :: p.1 ∨ p.1 = [] ∧ p.2 = []
def NP.Ok : NP → Prop
  | .txt ls => ls ≠ [] ∧ ∀ l ∈ ls, bg (mk l) ">>>" = false
  | .ex c _ ss ws => ss ≠ [] ∧ (∀ p ∈ ss, BOk p ∧ plainS p.1) ∧ (ss.map (·.1)).all remL = c ∧ (∀ l ∈ ws, isBlank l = false ∧ bg (mk l) ">>>" = false) ∧ ∀ l r, ws = l :: r → pS l = false
def NP.First : NP → Prop
  | .txt ls => ∃ l r, ls = l :: r ∧ isBlank l = true
  | .ex .. => True
def NP.isTxt : NP → Bool
  | .txt _ => true
  | .ex .. => false
def SeqOk : List NP → Prop
  | [] => True
  | p :: r => p.Ok ∧ (∀ q r', r = q :: r' → q.First ∧ (p.isTxt = true → q.isTxt = false)) ∧ SeqOk r
def rowsAll (ps : List NP) : List (List Nat) := (ps.map NP.rows).flatten
theorem rowsAll_cons (p : NP) (r : List NP) : rowsAll (p :: r) = p.rows ++ rowsAll r := rfl
def cutsB (o : Nat) : List NP → List (Nat × Nat × Nat)
  | [] => []
  | .txt ls :: r => cutsB (o + ls.length) r
  | .ex _ _ ss ws :: r => (o, o + ss.length, o + ss.length + ws.length) :: cutsB (o + ss.length + ws.length) r
theorem bg_srow (D : Nat) (b : List Nat) : bg (mk (srow D P3 b)) ">>>" = true := by
  rw [bgP]
  unfold srow
  rw [drop_sps]
  have e : P3 ++ b = 62 :: ([62, 62] ++ b) := rfl
  rw [e, lead_ne _ (by decide), List.drop_zero]
  unfold pre
  show (([62, 62, 62] ++ b).take 3 == P3) = true
  rfl
theorem pS_srow (D : Nat) (b : List Nat) : pS (srow D P3 b) = false := by
  rw [pS_eq]
  unfold srow
  rw [drop_sps]
  have e : P3 ++ b = 62 :: ([62, 62] ++ b) := rfl
  rw [e, lead_ne _ (by decide), List.drop_zero]
  unfold pre
  show (([62, 62, 62] ++ b).take 3 == D3) = false
  rfl
theorem pS_drow (D : Nat) (b : List Nat) : pS (srow D D3 b) = true := by
  rw [pS_eq]
  unfold srow
  rw [drop_sps]
  have e : D3 ++ b = 46 :: ([46, 46] ++ b) := rfl
  rw [e, lead_ne _ (by decide), List.drop_zero]
  unfold pre
  show (([46, 46, 46] ++ b).take 3 == D3) = true
  rfl
theorem blank_drop {l : List Nat} (h : isBlank l = true) (k : Nat) : isBlank (l.drop k) = true := by
  unfold isBlank at h ⊢
  rw [List.all_eq_true] at h ⊢
  exact fun c hc => h c (List.mem_of_mem_drop hc)
theorem pS_blank {l : List Nat} (h : isBlank l = true) : pS l = false := by
  rw [pS_eq]
  have h2 := blank_drop h (lead l)
  generalize l.drop (lead l) = m at h2
  cases m with
  | nil => rfl
  | cons c r =>
    unfold isBlank at h2
    rw [List.all_cons, Bool.and_eq_true] at h2
    have h3 : (c == 46) = false := by
      rw [beq_eq_false_iff_ne]
      rintro rfl
      exact absurd h2.1 (by decide)
    show ((c :: r).take 3 == D3) = false
    rw [List.take_succ_cons]
    show (c :: r.take 2 == 46 :: [46, 46]) = false
    rw [List.cons_beq_cons, h3]
    rfl
theorem pE_blank {l : List Nat} (h : isBlank l = true) : pE l = false := by
  unfold pE
  rw [h]
  rfl
theorem runL_seg {p : List Nat → Bool} (pr seg post : List (List Nat)) (hs : ∀ l ∈ seg, p l = true) (hp : post = [] ∨ ∃ h t, post = h :: t ∧ p h = false) : runL p (pr ++ (seg ++ post)) pr.length = pr.length + seg.length := by
  unfold runL
  rw [List.drop_left' rfl]
  congr 2
  induction seg with
  | nil =>
    rw [List.nil_append]
    rcases hp with rfl | ⟨h, t, rfl, hh⟩
    · rfl
    · rw [List.takeWhile_cons, hh]
      rfl
  | cons a r ih =>
    rw [List.cons_append, List.takeWhile_cons, hs a (List.mem_cons_self ..), if_pos rfl, ih fun l hl => hs l (List.mem_cons_of_mem _ hl)]
theorem head_rows : ∀ (ps : List NP), SeqOk ps → (∀ q r, ps = q :: r → q.First) → rowsAll ps = [] ∨ ∃ h t, rowsAll ps = h :: t ∧ pS h = false ∧ pE h = false
  | [], _, _ => .inl rfl
  | .txt ls :: r, _, hf => by
    obtain ⟨l, r', rfl, hb⟩ := hf _ _ rfl
    exact .inr ⟨l, r' ++ rowsAll r, rfl, pS_blank hb, pE_blank hb⟩
  | .ex c D [] ws :: r, ho, _ => absurd rfl ho.1.1
  | .ex c D (p :: ss) ws :: r, _, _ => by
    refine .inr ⟨srow D P3 p.2, _, rfl, pS_srow _ _, ?_⟩
    unfold pE
    rw [bg_srow]
    exact Bool.and_false _
theorem skip_txt : ∀ (ls pr post : List (List Nat)), (∀ l ∈ ls, bg (mk l) ">>>" = false) → cutsL (pr ++ (ls ++ post)) pr.length = cutsL (pr ++ (ls ++ post)) (pr.length + ls.length)
  | [], pr, post, _ => rfl
  | l :: r, pr, post, h => by
    have ih := skip_txt r (pr ++ [l]) post fun m hm => h m (List.mem_cons_of_mem _ hm)
    have e : pr ++ [l] ++ (r ++ post) = pr ++ (l :: r ++ post) := by simp
    rw [e, List.length_append] at ih
    have hlt : pr.length < (pr ++ (l :: r ++ post)).length := by
      rw [List.length_append, List.cons_append, List.length_cons]
      omega
    have hg : (pr ++ (l :: r ++ post))[pr.length] = l := by
      rw [List.getElem_append_right (Nat.le_refl _)]
      simp
    rw [cutsL, dif_pos hlt, hg, h l (List.mem_cons_self ..), if_neg Bool.false_ne_true]
    rw [List.length_cons]
    show cutsL _ (pr.length + [l].length) = _
    rw [ih]
    congr 1
    show pr.length + 1 + r.length = pr.length + (r.length + 1)
    omega
theorem cuts_of_parts : ∀ (ps : List NP) (pr : List (List Nat)), SeqOk ps → cutsL (pr ++ rowsAll ps) pr.length = cutsB pr.length ps
  | [], pr, _ => by
    rw [cutsL, dif_neg (by rw [List.length_append]; show ¬ _ < _ + 0; omega)]
    rfl
  | .txt ls :: r, pr, ho => by
    have ih := cuts_of_parts r (pr ++ ls) ho.2.2
    rw [List.length_append, List.append_assoc] at ih
    rw [rowsAll_cons]
    show cutsL (pr ++ (ls ++ rowsAll r)) pr.length = cutsB (pr.length + ls.length) r
    rw [skip_txt ls pr (rowsAll r) ho.1.2, ih]
  | .ex c D [] ws :: r, pr, ho => absurd rfl ho.1.1
  | .ex c D (p :: ss) ws :: r, pr, ho => by
    obtain ⟨⟨_, hss, _, hws, hfw⟩, hnext, hr⟩ := ho
    have hh := head_rows r hr fun q r' e => (hnext q r' e).1
    have ih := cuts_of_parts r (pr ++ (srows D (p :: ss) ++ ws.map (sps D ++ ·))) hr
    have el : (pr ++ (srows D (p :: ss) ++ ws.map (sps D ++ ·))).length = pr.length + (p :: ss).length + ws.length := by
      rw [List.length_append, List.length_append, srows_len, List.length_map]
      omega
    rw [el] at ih
    rw [rowsAll_cons]
    show cutsL (pr ++ ((srows D (p :: ss) ++ ws.map (sps D ++ ·)) ++ rowsAll r)) pr.length = (pr.length, pr.length + (p :: ss).length, pr.length + (p :: ss).length + ws.length) :: cutsB (pr.length + (p :: ss).length + ws.length) r
    rw [List.append_assoc] at ih
    generalize hA : pr ++ ((srows D (p :: ss) ++ ws.map (sps D ++ ·)) ++ rowsAll r) = A at ih ⊢
    have a1 : A = pr ++ (srow D P3 p.2 :: (ss.map (fun q => srow D D3 q.2) ++ ws.map (sps D ++ ·) ++ rowsAll r)) := by rw [← hA]; rfl
    have a2 : A = (pr ++ [srow D P3 p.2]) ++ (ss.map (fun q => srow D D3 q.2) ++ (ws.map (sps D ++ ·) ++ rowsAll r)) := by rw [a1]; simp
    have a3 : A = (pr ++ srows D (p :: ss)) ++ (ws.map (sps D ++ ·) ++ rowsAll r) := by rw [← hA]; simp
    have hlt : pr.length < A.length := by
      rw [a1, List.length_append, List.length_cons]
      omega
    have hg : A[pr.length] = srow D P3 p.2 := by
      subst a1
      rw [List.getElem_append_right (Nat.le_refl _)]
      simp
    have r1 : runL pS A (pr.length + 1) = pr.length + (p :: ss).length := by
      have k := runL_seg (p := pS) (pr ++ [srow D P3 p.2]) (ss.map fun q => srow D D3 q.2) (ws.map (sps D ++ ·) ++ rowsAll r) (fun l hl => by
        obtain ⟨q, _, rfl⟩ := List.mem_map.mp hl
        exact pS_drow _ _) (by
        cases ws with
        | nil =>
          rw [List.map_nil, List.nil_append]
          rcases hh with e | ⟨h, t, e, h1, _⟩
          · exact .inl e
          · exact .inr ⟨h, t, e, h1⟩
        | cons w ws' =>
          refine .inr ⟨sps D ++ w, ws'.map (sps D ++ ·) ++ rowsAll r, rfl, ?_⟩
          have := hfw w ws' rfl
          rw [pS_eq] at this ⊢
          rw [drop_sps]
          exact this)
      rw [← a2, List.length_append, List.length_map] at k
      rw [List.length_cons]
      show runL pS A (pr.length + [srow D P3 p.2].length) = _
      rw [k]
      show pr.length + 1 + ss.length = pr.length + (ss.length + 1)
      omega
    have r2 : runL pE A (pr.length + (p :: ss).length) = pr.length + (p :: ss).length + ws.length := by
      have k := runL_seg (p := pE) (pr ++ srows D (p :: ss)) (ws.map (sps D ++ ·)) (rowsAll r) (fun l hl => by
        obtain ⟨w, hw, rfl⟩ := List.mem_map.mp hl
        obtain ⟨w1, w2⟩ := hws w hw
        unfold pE
        have hb : isBlank (sps D ++ w) = false := by
          unfold isBlank at w1 ⊢
          rw [List.all_append, w1, Bool.and_false]
        rw [bgP] at w2 ⊢
        rw [drop_sps, w2, hb]
        rfl) (by
        rcases hh with e | ⟨h, t, e, _, h2⟩
        · exact .inl e
        · exact .inr ⟨h, t, e, h2⟩)
      rw [← a3, List.length_append, srows_len, List.length_map] at k
      exact k
    rw [cutsL, dif_pos hlt, hg, bg_srow, if_pos rfl, r1, r2, ih]
/-- the pieces of parts, from a place on -/
def pcsB (kept : List (List Nat)) (o : Nat) : List NP → List (Str ⊕ (Nat × Nat × Nat))
  | [] => []
  | .txt ls :: r => .inl (mk (joinL [] ((kept.drop o).take ls.length))) :: pcsB kept (o + ls.length) r
  | .ex _ _ ss ws :: r => .inr (o, o + ss.length, o + ss.length + ws.length) :: pcsB kept (o + ss.length + ws.length) r
theorem gap_none (kept : List (List Nat)) (o : Nat) : gapP kept o o = [] := if_neg (Nat.lt_irrefl _)
theorem pieces_of_parts (kept : List (List Nat)) : ∀ (ps : List NP) (o : Nat), SeqOk ps → kept.length = o + (rowsAll ps).length → piecesL kept o (cutsB o ps) = pcsB kept o ps
  | [], o, _, hk => by
    show gapP kept o kept.length = []
    rw [show kept.length = o from hk]
    exact gap_none kept o
  | .ex c D ss ws :: r, o, ho, hk => by
    rw [rowsAll_cons, List.length_append] at hk
    have e : (NP.ex c D ss ws).rows.length = ss.length + ws.length := by
      show (srows D ss ++ ws.map (sps D ++ ·)).length = _
      rw [List.length_append, srows_len, List.length_map]
    rw [e] at hk
    have ih := pieces_of_parts kept r (o + ss.length + ws.length) ho.2.2 (by omega)
    show gapP kept o o ++ (.inr (o, o + ss.length, o + ss.length + ws.length) :: piecesL kept (o + ss.length + ws.length) (cutsB (o + ss.length + ws.length) r)) = _
    rw [ih, gap_none]
    rfl
  | [.txt ls], o, ho, hk => by
    have e : kept.length = o + ls.length := by
      rw [hk]
      show o + (ls ++ []).length = _
      rw [List.append_nil]
    have h0 : ls.length ≠ 0 := fun z => ho.1.1 (List.length_eq_zero_iff.mp z)
    show gapP kept o kept.length = _
    unfold gapP
    rw [if_pos (by omega), e, Nat.add_sub_cancel_left]
    rfl
  | .txt ls :: .txt ms :: r, o, ho, hk => by
    have h := (ho.2.1 _ _ rfl).2 rfl
    cases h
  | .txt ls :: .ex c D ss ws :: r, o, ho, hk => by
    rw [rowsAll_cons, List.length_append] at hk
    have ih := pieces_of_parts kept (.ex c D ss ws :: r) (o + ls.length) ho.2.2 (by
      have : (NP.txt ls).rows.length = ls.length := rfl
      omega)
    have h0 : ls.length ≠ 0 := fun z => ho.1.1 (List.length_eq_zero_iff.mp z)
    show gapP kept o (o + ls.length) ++ (.inr (o + ls.length, o + ls.length + ss.length, o + ls.length + ss.length + ws.length) :: piecesL kept (o + ls.length + ss.length + ws.length) (cutsB (o + ls.length + ss.length + ws.length) r)) = .inl _ :: pcsB kept (o + ls.length) (.ex c D ss ws :: r)
    rw [← ih]
    show _ = .inl _ :: (gapP kept (o + ls.length) (o + ls.length) ++ _)
    rw [gap_none]
    unfold gapP
    rw [if_pos (by omega), Nat.add_sub_cancel_left]
    rfl
theorem pre_app (S r : List Nat) : pre S (S ++ r) = true := by
  unfold pre
  rw [List.take_left' rfl]
  exact beq_self_eq_true S
theorem foldl_reps : ∀ (n : Nat) (acc : Array Nat), ((List.replicate n (#[32] : Array Nat)).foldl (· ++ ·) acc).toList = acc.toList ++ sps n
  | 0, acc => by
    show acc.toList = acc.toList ++ []
    rw [List.append_nil]
  | n + 1, acc => by
    rw [List.replicate_succ, List.foldl_cons, foldl_reps n, Array.toList_append, List.append_assoc]
    rfl
theorem mul_sps (n : Nat) : Txt.mul " " (n : Int) = mk (sps n) := by
  refine ext_tl ?_
  rw [sp_one]
  unfold Txt.mul
  split
  · rename_i h
    have : n = 0 := by omega
    subst this
    rfl
  · split
    · rename_i h1 h2
      rw [Bool.or_eq_true, beq_iff_eq, beq_iff_eq] at h2
      have : n = 1 := by
        rcases h2 with h2 | h2
        · omega
        · cases h2
      subst this
      rfl
    · show ((List.replicate (n : Int).toNat (#[32] : Array Nat)).foldl (· ++ ·) #[]).toList = sps n
      rw [Int.toNat_natCast, foldl_reps]
      rfl
theorem starts_sps (n : Nat) (l : List Nat) : Txt.startswith (mk (sps n ++ l)) (Txt.mul " " (n : Int)) = true := by
  rw [mul_sps]
  cases n with
  | zero =>
    have e : mk (sps 0) = "" := ext_tl (by decide +kernel)
    rw [e]
    exact starts_empty _
  | succ n => 
    exact (starts_pre (mk (sps (n + 1) ++ l)) (y := sps (n + 1)) (by unfold sps; rw [List.replicate_succ]; simp)).trans (pre_app _ _)
theorem starts_dot (n : Nat) (b : List Nat) : Txt.startswith (mk (srow n D3 b)) (Txt.mul " " (n : Int) ++ ".") = true := by
  have e : Txt.mul " " (n : Int) ++ "." = mk (sps n ++ [46]) := ext_tl (by
    rw [tl_append, mul_sps]
    show sps n ++ tl "." = sps n ++ [46]
    congr 1)
  rw [e]
  refine (starts_pre _ (by simp)).trans ?_
  show pre (sps n ++ [46]) (sps n ++ (46 :: ([46, 46] ++ b))) = true
  have e2 : sps n ++ (46 :: ([46, 46] ++ b)) = (sps n ++ [46]) ++ ([46, 46] ++ b) := by simp
  rw [e2]
  exact pre_app _ _
theorem lead_srow (D : Nat) (b : List Nat) : lead (srow D P3 b) = D := by
  unfold srow
  rw [lead_sps]
  show D + lead (62 :: ([62, 62] ++ b)) = D
  rw [lead_ne _ (by decide)]
  exact Nat.add_zero D
theorem srows_get (D : Nat) {ss : List (List Nat × List Nat)} {j : Nat} {l : List Nat} (h : (srows D ss)[j]? = some l) : ∃ p ∈ ss, l = srow D (if j = 0 then P3 else D3) p.2 := by
  cases ss with
  | nil => cases h
  | cons p r =>
    cases j with
    | zero =>
      cases h
      exact ⟨p, List.mem_cons_self .., rfl⟩
    | succ j =>
      have h2 : (r.map fun q => srow D D3 q.2)[j]? = some l := h
      rw [List.getElem?_map] at h2
      obtain ⟨q, hq, rfl⟩ := Option.map_eq_some_iff.mp h2
      exact ⟨q, List.mem_cons_of_mem _ (List.mem_of_getElem? hq), rfl⟩

/-! ### sorted pairs of a text and a truth -/
def PrAt (H : Hp) (x : V) (d : Str × Bool) : Prop := ∃ t, x = .ref t ∧ H t = some (.tup [.str d.1, .bl d.2])
def encP (d : Str × Bool) : PyData := .tuple [.str d.1, .bool d.2]
def srtP (ds : List (Str × Bool)) : List (Str × Bool) := ds.mergeSort (PySem.W.dataLe false encP)
def rSortedP (K : PySem.W.Frag) : List V → Hp → VK → Prop := fun vs H Q => ∃ (a : Addr) (xs : List V) (ds : List (Str × Bool)), vs = [.ref a] ∧ SqL K H a xs ∧ Paired (PrAt H) xs ds ∧ ∀ ys p, Paired (PrAt H) ys (srtP ds) → H p = none → Q (.ref p) (upd H p (.lst ys))
def RP (H : Hp) (v : Value) (d : Str × Bool) : Prop := ∃ t, v = Value.ref t ∧ H t = some (.tup [.str d.1, .bl d.2])
theorem rp_of {H : Hp} : ∀ {xs : List V} {vs : List Value} {ds : List (Str × Bool)}, Vals xs vs → Paired (PrAt H) xs ds → PySem.W.EachIs (RP H) vs ds
  | [], [], [], _, _ => .nil
  | x :: xs, v :: vs, d :: ds, .cons r t, .cons h k => by
    obtain ⟨a, rfl, e⟩ := h
    exact .cons ⟨a, r, e⟩ (rp_of t k)
  | [], [], _ :: _, _, h => by cases h
  | _ :: _, _ :: _, [], _, h => by cases h
theorem rp_back {H : Hp} : ∀ {vs : List Value} {ds : List (Str × Bool)}, PySem.W.EachIs (RP H) vs ds → ∃ ys : List V, Vals ys vs ∧ Paired (PrAt H) ys ds
  | _, _, .nil => ⟨[], .nil, .nil⟩
  | _, _, .cons ⟨a, e, h⟩ t => by
    obtain ⟨ys, h1, h2⟩ := rp_back t
    subst e
    exact ⟨.ref a :: ys, .cons (show RelV (.ref a) (.ref a) from rfl) h1, .cons ⟨a, rfl, h⟩ h2⟩
section
variable {X : Cx}
theorem cr_sortedP (hu : X.A.units + 64 < cLine) : CallR X (.builtin "sorted") (rSortedP X.K) := by
  intro pins s σ H vs us Q I r h
  obtain ⟨a, xs, ds, rfl, hs, hp, q⟩ := h
  obtain ⟨its, rv, hl, hz⟩ := I.list hs
  rw [Vals.ref1 r]
  have e := rp_of rv hp
  have el : its.length = ds.length := e.length
  have xl : xs.length = its.length := rv.length
  have dep : ∀ b : Str × Bool, (encP b).depth ≤ 8 := fun b => by
    unfold encP
    simp [PyData.depth, PyData.depthAll]
  have er : PySem.W.EachIs (fun v b => ∃ as, Reads s.heap v (encP b) as) its ds := e.mono fun v d ⟨t, ev, ht⟩ => by
    subst ev
    obtain ⟨_, its2, r2, o, hoo, hc, n, hd⟩ := I.hok _ _ ht
    obtain ⟨u1, u2, rfl, ri, rj⟩ := vals2 r2
    obtain ⟨tk, rfl⟩ := ri
    cases rj
    exact ⟨_, .tuple hoo hc hd (.cons (.str _ _) (.cons (.bool _) .nil))⟩
  have al : PySem.W.AllAlike (ds.map encP) := PySem.W.AllAlike.of fun b b' => by
    unfold encP
    simp [PySem.W.alike, PySem.W.alikeAll]
  refine PySem.W.sorted_data (R := RP H) (enc := encP) hl.isList e er al (PySem.W.Sortable.tuples fun b => ⟨_, _, rfl⟩) (by omega) (fun b _ => by have := dep b; omega) fun out lo ho => ?_
  obtain ⟨ys, vy, py⟩ := rp_back ho
  obtain ⟨ep, he'⟩ := PyProof.Rows.sortedAll_at s.heap its out.toArray
  have yl : ys.length = out.length := vy.length
  exact ⟨.ref _, upd H (s.heap.objs.size + 1) (.lst ys), I.laid (t' := s.toks) (fun _ _ => PyProof.Rows.sortedAll_old) (Nat.le_succ _) ⟨by omega, out, ep, vy, he'⟩, rfl, q _ _ py (I.hok.fresh (Nat.le_succ _))⟩
theorem cr_sortedPK {K' : PySem.W.Frag} (hK : X.K = K') (hu : X.A.units + 64 < cLine) : CallR X (.builtin "sorted") (rSortedP K') := by
  subst hK
  exact cr_sortedP hu
end

/-! ### zip in a comprehension -/
theorem kit_no {K : PySem.W.Frag} {t : Value} {C : Addr} (is : PySem.W.isClsIn K C = true) (ty : PySem.W.typeIn K (.ref C) = some (.type "type")) (sub : PySem.W.subIn K t (.ref C) = some false) (ne : t ≠ .ref C) : PySem.W.kitOne K t (.ref C) = some false := by
  have h1 : (PySem.W.clsIn K C).isSome = true := is
  have h2 : (t == Value.ref C) = false := beq_eq_false_iff_ne.mpr ne
  have h3 : ((PySem.W.clsIn K C).isSome && PySem.W.typeIn K (.ref C) == some (.type "type")) = true := by
    rw [h1, ty]
    rfl
  unfold PySem.W.kitOne PySem.W.kitCls
  rw [h2, if_neg Bool.false_ne_true]
  dsimp only
  rw [if_pos h3, sub]
/-- comprehensions over zip, as lc_list -/
theorem lc_zip {K : PySem.W.Frag} {a b : Addr} {xs ys : List V} {g : TG} {tt : TT} {te : TE} {vs : List Nat} {σ : L2.St} {H1 : Hp} {D : Addr} {Qd : Hp → Prop} (hl : xs.length = ys.length) (Pv : Nat → Hp → Prop) (h0 : Pv 0 (upd H1 D (.lst []))) (hq : ∀ i H, Pv i H → SqL K H a xs ∧ SqL K H b ys)
    (hs : ∀ i x y T H, xs[i]? = some x → ys[i]? = some y → Pv i H → H T = none → g (.ref T) (wipe σ vs) (upd H T (.tup [x, y])) fun σ2 H2 => wipe σ2 vs = wipe σ vs ∧ tt σ2 H2 fun b H3 =>
      if b = true then te σ2 H3 fun y H4 => ∃ acc, H4 D = some (.lst acc) ∧ acc.length < sizeLine ∧ Pv (i + 1) (upd H4 D (.lst (acc ++ [y]))) else Pv (i + 1) H3) (hd : ∀ H, Pv xs.length H → Qd H) :
    ∃ W : Nat → Nat → Hp → Prop, (∃ m, W 0 m (upd H1 D (.lst []))) ∧ ∀ i m H, W i m H →
      ((Itz K a b).stop i H ∧ Qd H) ∨ ((Itz K a b).go i H ∧ ∃ Nx : Hp → Prop, (∀ H', Nx H' → ∃ m', m' < m ∧ W (i + 1) m' H') ∧ ∀ x H', (Itz K a b).yld i H x H' → g x (wipe σ vs) H' fun σ2 H2 => wipe σ2 vs = wipe σ vs ∧ tt σ2 H2 fun b H3 =>
        if b = true then te σ2 H3 fun y H4 => ∃ acc, H4 D = some (.lst acc) ∧ acc.length < sizeLine ∧ Nx (upd H4 D (.lst (acc ++ [y]))) else Nx H3) := by
  refine ⟨fun i m H => m = xs.length - i ∧ i ≤ xs.length ∧ Pv i H, ⟨xs.length, rfl, Nat.zero_le _, h0⟩, ?_⟩
  rintro i m H ⟨rfl, hi, p⟩
  obtain ⟨q1, q2⟩ := hq i H p
  by_cases hlt : i < xs.length
  · have hlt2 : i < ys.length := by omega
    refine .inr ⟨⟨xs, ys, xs[i], ys[i], q1, q2, List.getElem?_eq_getElem hlt, List.getElem?_eq_getElem hlt2⟩, Pv (i + 1), fun H' p' => ⟨xs.length - (i + 1), by omega, rfl, hlt, p'⟩, ?_⟩
    rintro v H' ⟨T, x, y, rfl, nT, rfl, hx, hy⟩
    exact hs i x y T H (hx xs q1) (hy ys q2) p nT
  · have e : i = xs.length := by omega
    subst e
    exact .inl ⟨⟨xs, ys, q1, q2, .inl (Nat.le_refl _)⟩, hd H p⟩
theorem lc_zipT {K : PySem.W.Frag} {a b : Addr} {xs ys : List V} {g : TG} {tt : TT} {te : TE} {vs : List Nat} {σ : L2.St} {H1 : Hp} {D : Addr} {Qd : Hp → Prop} (hl : xs.length = ys.length) (Pv : Nat → Hp → Prop) (h0 : Pv 0 (upd H1 D (.lst []))) (hq : ∀ i H, Pv i H → SqT K H a xs ∧ SqT K H b ys)
    (hs : ∀ i x y T H, xs[i]? = some x → ys[i]? = some y → Pv i H → H T = none → g (.ref T) (wipe σ vs) (upd H T (.tup [x, y])) fun σ2 H2 => wipe σ2 vs = wipe σ vs ∧ tt σ2 H2 fun b H3 =>
      if b = true then te σ2 H3 fun y H4 => ∃ acc, H4 D = some (.lst acc) ∧ acc.length < sizeLine ∧ Pv (i + 1) (upd H4 D (.lst (acc ++ [y]))) else Pv (i + 1) H3) (hd : ∀ H, Pv xs.length H → Qd H) :
    ∃ W : Nat → Nat → Hp → Prop, (∃ m, W 0 m (upd H1 D (.lst []))) ∧ ∀ i m H, W i m H →
      ((RZ.ItzT K a b).stop i H ∧ Qd H) ∨ ((RZ.ItzT K a b).go i H ∧ ∃ Nx : Hp → Prop, (∀ H', Nx H' → ∃ m', m' < m ∧ W (i + 1) m' H') ∧ ∀ x H', (RZ.ItzT K a b).yld i H x H' → g x (wipe σ vs) H' fun σ2 H2 => wipe σ2 vs = wipe σ vs ∧ tt σ2 H2 fun b H3 =>
        if b = true then te σ2 H3 fun y H4 => ∃ acc, H4 D = some (.lst acc) ∧ acc.length < sizeLine ∧ Nx (upd H4 D (.lst (acc ++ [y]))) else Nx H3) := by
  refine ⟨fun i m H => m = xs.length - i ∧ i ≤ xs.length ∧ Pv i H, ⟨xs.length, rfl, Nat.zero_le _, h0⟩, ?_⟩
  rintro i m H ⟨rfl, hi, p⟩
  obtain ⟨q1, q2⟩ := hq i H p
  by_cases hlt : i < xs.length
  · have hlt2 : i < ys.length := by omega
    refine .inr ⟨⟨xs, ys, xs[i], ys[i], q1, q2, List.getElem?_eq_getElem hlt, List.getElem?_eq_getElem hlt2⟩, Pv (i + 1), fun H' p' => ⟨xs.length - (i + 1), by omega, rfl, hlt, p'⟩, ?_⟩
    rintro v H' ⟨T, x, y, rfl, nT, rfl, hx, hy⟩
    exact hs i x y T H (hx xs q1) (hy ys q2) p nT
  · have e : i = xs.length := by omega
    subst e
    exact .inl ⟨⟨xs, ys, q1, q2, .inl (Nat.le_refl _)⟩, hd H p⟩

/-! ### what is the same, to any depth -/
theorem op_is_bl {X : Cx} : OpR X (compareOp .Is) (fun x y H Q => ∃ a b : Bool, x = .bl a ∧ y = .bl b ∧ Q (.bl (a == b)) H) := by
  intro pins s σ H x y v u Q I rx ry h
  obtain ⟨a, b, rfl, rfl, q⟩ := h
  cases rx
  cases ry
  exact is_bool (fin_bl I q rfl)
def ScB (a : V) : Prop := a = .non ∨ (∃ s : Str, a = .str s) ∨ (∃ i : Int, a = .int i) ∨ ∃ b : Bool, a = .bl b
/-- the same, n levels at most -/
def Sm (H : Hp) : Nat → V → V → Prop
  | 0, _, _ => False
  | n + 1, x, y => (ScB y ∧ x = y) ∨ ∃ (p q : Addr) (xs ys : List V), x = .ref p ∧ y = .ref q ∧ (H p = some (.lst xs) ∧ H q = some (.lst ys) ∨ H p = some (.tup xs) ∧ H q = some (.tup ys)) ∧ Paired (Sm H n) xs ys ∧ xs.length ≤ 1000
theorem paired_imp {α β : Type} {F G : α → β → Prop} (h : ∀ x y, F x y → G x y) : ∀ {xs : List α} {ys : List β}, Paired F xs ys → Paired G xs ys
  | _, _, .nil => .nil
  | _, _, .cons a r => .cons (h _ _ a) (paired_imp h r)
theorem Sm.same {H H' : Hp} (s : Same H H') : ∀ {n : Nat} {x y : V}, Sm H n x y → Sm H' n x y
  | 0, _, _, h => h.elim
  | n + 1, x, y, h => by
    rcases h with h | ⟨p, q, xs, ys, h1, h2, h3, h4, h5⟩
    · exact .inl h
    · refine .inr ⟨p, q, xs, ys, h1, h2, ?_, paired_imp (fun _ _ k => Sm.same s k) h4, h5⟩
      rcases h3 with ⟨a, b⟩ | ⟨a, b⟩
      · exact .inl ⟨s _ _ a, s _ _ b⟩
      · exact .inr ⟨s _ _ a, s _ _ b⟩
theorem paired_at {α β : Type} {F : α → β → Prop} : ∀ {xs : List α} {ys : List β}, Paired F xs ys → ∀ {i : Nat} {x : α} {y : β}, xs[i]? = some x → ys[i]? = some y → F x y
  | _, _, .nil, i, x, y, h, _ => by cases h
  | _, _, .cons r t, 0, x, y, h, k => by
    cases h
    cases k
    exact r
  | _, _, .cons r t, i + 1, x, y, h, k => paired_at t (i := i) h k
def trues (n : Nat) : List V := (List.replicate n true).map V.bl
theorem trues_snoc (n : Nat) : trues n ++ [V.bl true] = trues (n + 1) := by
  unfold trues
  rw [List.replicate_succ', List.map_append]
  rfl
theorem trues_all (n : Nat) : (List.replicate n true).all id = true := by
  rw [List.all_eq_true]
  intro b hb
  exact (List.eq_of_mem_replicate hb)
theorem fnok_no {P : Program} {w : World} {K : PySem.W.Frag} {mg : Str → Option Value} {base : Heap} {CX : CXT} {k : Nat} {f : Addr} {fd : FuncData} {ps : List Str} {sp : Sp} (h : ∀ vs H Q E, ¬ sp vs H Q E) : FnOk P w K mg base CX k f fd ps sp :=
  ⟨fun vs H Q E q => (h _ _ _ _ q).elim, fun A outer s H args us vs Q E hr he hb hv hs => (h _ _ _ _ hs).elim⟩
section
variable {P : Program} {w : World} {K : PySem.W.Frag} {mg : Str → Option Value} {base : Heap}
def sp_law_same (n : Nat) : Sp := fun vs H Q _ => ∃ a b : V, vs = [a, b] ∧ Sm H n a b ∧ ∀ H', Same H H' → Q (.bl true) H'
theorem sp_law_same_no {vs : List V} {H : Hp} {Q : VK} {E : XK} (h : sp_law_same 0 vs H Q E) : False := by
  obtain ⟨a, b, _, h, _⟩ := h
  exact h
theorem ok_law_same {f : Addr} {fd : FuncData} {dvs : List V} (F : Fn K "_law_same" s_law_same dvs f fd) {n r : Nat} (O_law_same : Own P w K mg base "_law_same" r ["found", "due"] [] (sp_law_same n)) (m_all : mg "all" = none) (m_bool : mg "bool" = none) (m_int : mg "int" = none) (m_isinstance : mg "isinstance" = none) (m_len : mg "len" = none) (m_list : mg "list" = none) (m_tuple : mg "tuple" = none) (m_zip : mg "zip" = none) : FnOk P w K mg base CX0 (r + 1) f fd ["found", "due"] (sp_law_same (n + 1)) := by
  refine Fn.okN F sc_law_same (fun vs H Q E h => ?_) (fun cdv A outer s H vs Q E hr h => ?_)
  · obtain ⟨_, _, rfl, _⟩ := h
    rfl
  · obtain ⟨a, b, rfl, hs, k⟩ := h
    refine ⟨_, (pss_cons (ps_if (pt_val (pe_callB call_isiT (by rfl) m_isinstance (by decide +kernel) (pa_cons (pv 1) (pa_cons (pe_tup (pa_cons (pe_bltn (v := .ty "list") (by rfl) m_list (by decide +kernel) rfl) (pa_cons (pe_bltn (v := .ty "tuple") (by rfl) m_tuple (by decide +kernel) rfl) pa_nil))) pa_nil))))
          (pss_cons (ps_if (PW.pt (pw_or (pt_cmpR op_ne (pe_callB call_isi (by rfl) m_isinstance (by decide +kernel) (pa_cons (pv 0) (pa_cons (pe_bltn (v := .ty "list") (by rfl) m_list (by decide +kernel) rfl) pa_nil))) (pe_callB call_isi (by rfl) m_isinstance (by decide +kernel) (pa_cons (pv 1) (pa_cons (pe_bltn (v := .ty "list") (by rfl) m_list (by decide +kernel) rfl) pa_nil))) (nomark _)) (pw_or1 (pt_cmpR op_ne (pe_callB call_isi (by rfl) m_isinstance (by decide +kernel) (pa_cons (pv 0) (pa_cons (pe_bltn (v := .ty "tuple") (by rfl) m_tuple (by decide +kernel) rfl) pa_nil))) (pe_callB call_isi (by rfl) m_isinstance (by decide +kernel) (pa_cons (pv 1) (pa_cons (pe_bltn (v := .ty "tuple") (by rfl) m_tuple (by decide +kernel) rfl) pa_nil))) (nomark _)))))
                (pss_one (ps_ret pe_bl))
                pss_nil)
            (pss_one (ps_ret (pe_and (pe_cmpR op_eq (pe_callB call_len_seq (by rfl) m_len PySem.boot_len (pa_cons (pv 0) pa_nil)) (pe_callB call_len_seq (by rfl) m_len PySem.boot_len (pa_cons (pv 1) pa_nil)) (nomark _)) (pe_one (pe_callB (cr_all rfl) (by rfl) m_all (by decide +kernel) (pa_cons (pe_lc (own := [("one", 2), ("two", 3)]) (g := gTup K 2 (gCons (gName 2) (gCons (gName 3) gNil))) (tt := tYes) (by rfl) sc_law_same.nd (RZ.pi_zipA (by rfl) m_zip (pa_cons (pv 0) (pa_cons (pv 1) pa_nil))) (blkOk_by (own := [("one", 2), ("two", 3)]) (N := ["found", "due", "one", "two"]) (sc := defScope s_law_same) (by decide +kernel)) (fun _ _ _ _ _ => (pg_tup rfl (pgs_cons (pg_name (i := 2) sc_law_same.nd rfl (.inl rfl)) (pgs_cons (pg_name (i := 3) sc_law_same.nd rfl (.inl rfl)) pgs_nil)))) (fun _ _ _ _ _ => pts_nil) (fun _ _ _ _ _ => (pe_own O_law_same (hr.mono (by omega)) (by rfl) (pa_cons (pv 2) (pa_cons (pv 3) pa_nil))))) pa_nil)))))))
          pss_nil)
      (pss_cons (ps_if (pt_val (pe_callB call_isiT (by rfl) m_isinstance (by decide +kernel) (pa_cons (pv 1) (pa_cons (pe_tup (pa_cons (pe_bltn (v := .ty "bool") (by rfl) m_bool (by decide +kernel) rfl) (pa_cons (pe_bltn (v := .ty "int") (by rfl) m_int (by decide +kernel) rfl) pa_nil))) pa_nil))))
          (pss_one (ps_ret (pe_and (pe_callB call_isi (by rfl) m_isinstance (by decide +kernel) (pa_cons (pv 0) (pa_cons (pe_bltn (v := .ty "int") (by rfl) m_int (by decide +kernel) rfl) pa_nil))) (pe_and (pe_cmpR op_eq (pe_callB call_isi (by rfl) m_isinstance (by decide +kernel) (pa_cons (pv 0) (pa_cons (pe_bltn (v := .ty "bool") (by rfl) m_bool (by decide +kernel) rfl) pa_nil))) (pe_callB call_isi (by rfl) m_isinstance (by decide +kernel) (pa_cons (pv 1) (pa_cons (pe_bltn (v := .ty "bool") (by rfl) m_bool (by decide +kernel) rfl) pa_nil))) (nomark _)) (pe_one (pe_cmpR op_eq (pv 0) (pv 1) (nomark _)))))))
          pss_nil)
      (pss_one (ps_ret (pe_and (pe_cmpR op_is_bl (pe_callB call_isi (by rfl) m_isinstance (by decide +kernel) (pa_cons (pv 0) (pa_cons (pe_bltn (v := .ty "bool") (by rfl) m_bool (by decide +kernel) rfl) pa_nil))) pe_bl (nomark _)) (pe_one (pe_cmpR op_eq (pv 0) (pv 1) (nomark _)))))))), ?_⟩
    rcases hs with ⟨hsc, rfl⟩ | ⟨p, q, xs, ys, rfl, rfl, hl, hpr, hle⟩
    · obtain ⟨n1, kI, kB, ty, k1, k2, k3, k4⟩ : ∃ (n : String) (kI kB : Bool), (∀ H, TyX K H a (.type n)) ∧ PySem.W.kitOne K (.type n) (.type "list") = some false ∧ PySem.W.kitOne K (.type n) (.type "tuple") = some false ∧ PySem.W.kitOne K (.type n) (.type "bool") = some kB ∧ PySem.W.kitOne K (.type n) (.type "int") = some kI ∧ (kB = true → kI = true) := by
        rcases hsc with rfl | ⟨s, rfl⟩ | ⟨i, rfl⟩ | ⟨c, rfl⟩
        · exact ⟨"NoneType", false, false, fun H => .base .non, kit_ty (by decide +kernel), kit_ty (by decide +kernel), kit_ty (by decide +kernel), kit_ty (by decide +kernel), nofun⟩
        · exact ⟨"str", false, false, fun H => .base (.str s), kit_ty (by decide +kernel), kit_ty (by decide +kernel), kit_ty (by decide +kernel), kit_ty (by decide +kernel), nofun⟩
        · exact ⟨"int", true, false, fun H => .base (.int i), kit_ty (by decide +kernel), kit_ty (by decide +kernel), kit_ty (by decide +kernel), kit_ty (by decide +kernel), nofun⟩
        · exact ⟨"bool", true, true, fun H => .base (.bl c), kit_ty (by decide +kernel), kit_ty (by decide +kernel), kit_ty (by decide +kernel), kit_ty (by decide +kernel), fun _ => rfl⟩
      obtain ⟨k4, kk⟩ := k4
      have sc : scal a a = true := by rcases hsc with rfl | ⟨s, rfl⟩ | ⟨i, rfl⟩ | ⟨c, rfl⟩ <;> rfl
      refine ⟨a, rfl, by show 2 ≤ sizeLine; decide, fun T nT => ?_⟩
      have sT := same_new (o := .tup [.ty "list", .ty "tuple"]) nT
      have tT : (upd H T (.tup [.ty "list", .ty "tuple"])) T = some (.tup [.ty "list", .ty "tuple"]) := upd_same
      generalize upd H T (.tup [.ty "list", .ty "tuple"]) = H1 at sT tT ⊢
      refine ⟨a, T, [.ty "list", .ty "tuple"], _, _, false, rfl, tT, .cons (.ty "list") (.cons (.ty "tuple") .nil), ty H1, kitAny_cons (b := false) k1 (fun _ => kitAny_cons (b := false) k2 (fun _ => kitAny_nil) (fun h => Bool.noConfusion h)) (fun h => Bool.noConfusion h), false, rfl, iteF ?_⟩
      refine ⟨a, rfl, by show 2 ≤ sizeLine; decide, fun T2 nT2 => ?_⟩
      have sT2 := same_new (o := .tup [.ty "bool", .ty "int"]) nT2
      have tT2 : (upd H1 T2 (.tup [.ty "bool", .ty "int"])) T2 = some (.tup [.ty "bool", .ty "int"]) := upd_same
      generalize upd H1 T2 (.tup [.ty "bool", .ty "int"]) = H2 at sT2 tT2 ⊢
      have fin : Q (.bl (decide (a = a))) H2 := by
        rw [decide_eq_true rfl]
        exact k H2 (sT.trans sT2)
      cases kI with
      | false =>
        cases kB with
        | true => exact absurd (kk rfl) Bool.false_ne_true
        | false =>
          refine ⟨a, T2, [.ty "bool", .ty "int"], _, _, false, rfl, tT2, .cons (.ty "bool") (.cons (.ty "int") .nil), ty H2, kitAny_cons (b := false) k3 (fun _ => kitAny_cons (b := false) k4 (fun _ => kitAny_nil) (fun h => Bool.noConfusion h)) (fun h => Bool.noConfusion h), false, rfl, iteF ?_⟩
          exact ⟨a, rfl, _, _, _, _, false, rfl, .ty "bool", ty H2, k3, _, _, rfl, rfl, true, rfl, iteT ⟨a, rfl, a, rfl, sc, fin⟩⟩
      | true =>
        refine ⟨a, T2, [.ty "bool", .ty "int"], _, _, true, rfl, tT2, .cons (.ty "bool") (.cons (.ty "int") .nil), ty H2, kitAny_cons (b := kB) k3 (fun _ => kitAny_cons (b := true) k4 (fun h => Bool.noConfusion h) (fun _ => rfl)) (fun _ => rfl), true, rfl, iteT ?_⟩
        refine ⟨a, rfl, _, _, _, _, true, rfl, .ty "int", ty H2, k4, true, rfl, iteT ?_⟩
        refine ⟨a, rfl, _, _, _, _, kB, rfl, .ty "bool", ty H2, k3, a, rfl, _, _, _, _, kB, rfl, .ty "bool", ty H2, k3, rfl, true, congrArg V.bl (decide_eq_true rfl), iteT ⟨a, rfl, a, rfl, sc, fin⟩⟩
    · have hlen : xs.length = ys.length := Paired.length hpr
      refine ⟨.ref q, rfl, by show 2 ≤ sizeLine; decide, fun T nT => ?_⟩
      have sT := same_new (o := .tup [.ty "list", .ty "tuple"]) nT
      have tT : (upd H T (.tup [.ty "list", .ty "tuple"])) T = some (.tup [.ty "list", .ty "tuple"]) := upd_same
      generalize upd H T (.tup [.ty "list", .ty "tuple"]) = H1 at sT tT ⊢
      rcases hl with ⟨hp, hq⟩ | ⟨hp, hq⟩
      · have hp1 := sT _ _ hp
        have hq1 := sT _ _ hq
        refine ⟨.ref q, T, [.ty "list", .ty "tuple"], _, _, true, rfl, tT, .cons (.ty "list") (.cons (.ty "tuple") .nil), .base (.lst hq1), kitAny_cons (b := true) (kit_ty (by decide +kernel)) (fun h => Bool.noConfusion h) (fun _ => rfl), true, rfl, iteT ?_⟩
        refine ⟨.ref p, rfl, _, _, _, _, true, rfl, .ty "list", .base (.lst hp1), kit_ty (by decide +kernel), .ref q, rfl, _, _, _, _, true, rfl, .ty "list", .base (.lst hq1), kit_ty (by decide +kernel), rfl, _, rfl, ?_⟩
        rw [decide_eq_true (rfl : (V.bl true : V) = _)]
        refine iteF ⟨.ref p, rfl, _, _, _, _, false, rfl, .ty "tuple", .base (.lst hp1), kit_ty (by decide +kernel), .ref q, rfl, _, _, _, _, false, rfl, .ty "tuple", .base (.lst hq1), kit_ty (by decide +kernel), rfl, _, rfl, ?_⟩
        rw [decide_eq_true (rfl : (V.bl false : V) = _)]
        refine iteF ⟨.ref p, rfl, p, xs, rfl, .inl (SqL.of hp1), .ref q, rfl, q, ys, rfl, .inl (SqL.of hq1), rfl, true, congrArg V.bl (decide_eq_true (by rw [hlen])), iteT ⟨.ref p, rfl, .ref q, rfl, p, q, xs, ys, rfl, .inl ⟨SqL.of hp1, SqL.of hq1, fun C nC => ?_⟩⟩⟩
        refine lc_zip (K := K) (a := p) (b := q) (xs := xs) (ys := ys) hlen (fun i H2 => Same H1 H2 ∧ H2 C = some (.lst (trues i))) ⟨same_new nC, upd_same⟩ (fun i H2 h => ⟨SqL.of (h.1 _ _ hp1), SqL.of (h.1 _ _ hq1)⟩) ?_ ?_
        · rintro i x y T2 H2 hx hy ⟨s2, eC⟩ nT2
          have sT2 := same_new (o := .tup [x, y]) nT2
          refine ⟨T2, [x, y], rfl, SqT.of upd_same, rfl, _, _, rfl, _, _, rfl, rfl, rfl, ?_⟩
          unfold tYes
          show ite (true = true) _ _
          rw [if_pos rfl]
          have hi : i < xs.length := (List.getElem?_eq_some_iff.mp hx).1
          refine ⟨x, rfl, y, rfl, x, y, rfl, (paired_at hpr hx hy).same (sT.trans (s2.trans sT2)), fun H3 s3 => ⟨_, s3 _ _ (sT2 _ _ eC), ?_, fun b o e => ?_, ?_⟩⟩
          · unfold trues
            rw [List.length_map, List.length_replicate]
            exact Nat.lt_of_le_of_lt (show i ≤ 1000 by omega) (by decide)
          · rw [upd_ne (ne_of_none e nC)]
            exact s3 _ _ (sT2 _ _ (s2 _ _ e))
          · rw [upd_same, trues_snoc]
        · rintro H2 ⟨s2, eC⟩
          refine ⟨C, List.replicate xs.length true, rfl, SqL.of eC, ?_⟩
          rw [trues_all]
          exact k _ (sT.trans s2)
      · have hp1 := sT _ _ hp
        have hq1 := sT _ _ hq
        refine ⟨.ref q, T, [.ty "list", .ty "tuple"], _, _, true, rfl, tT, .cons (.ty "list") (.cons (.ty "tuple") .nil), .base (.tup hq1), kitAny_cons (b := false) (kit_ty (by decide +kernel)) (fun _ => kitAny_cons (b := true) (kit_ty (by decide +kernel)) (fun h => Bool.noConfusion h) (fun _ => rfl)) (fun h => Bool.noConfusion h), true, rfl, iteT ?_⟩
        refine ⟨.ref p, rfl, _, _, _, _, false, rfl, .ty "list", .base (.tup hp1), kit_ty (by decide +kernel), .ref q, rfl, _, _, _, _, false, rfl, .ty "list", .base (.tup hq1), kit_ty (by decide +kernel), rfl, _, rfl, ?_⟩
        rw [decide_eq_true (rfl : (V.bl false : V) = _)]
        refine iteF ⟨.ref p, rfl, _, _, _, _, true, rfl, .ty "tuple", .base (.tup hp1), kit_ty (by decide +kernel), .ref q, rfl, _, _, _, _, true, rfl, .ty "tuple", .base (.tup hq1), kit_ty (by decide +kernel), rfl, _, rfl, ?_⟩
        rw [decide_eq_true (rfl : (V.bl true : V) = _)]
        refine iteF ⟨.ref p, rfl, p, xs, rfl, .inr (SqT.of hp1), .ref q, rfl, q, ys, rfl, .inr (SqT.of hq1), rfl, true, congrArg V.bl (decide_eq_true (by rw [hlen])), iteT ⟨.ref p, rfl, .ref q, rfl, p, q, xs, ys, rfl, .inr ⟨SqT.of hp1, SqT.of hq1, fun C nC => ?_⟩⟩⟩
        refine lc_zipT (K := K) (a := p) (b := q) (xs := xs) (ys := ys) hlen (fun i H2 => Same H1 H2 ∧ H2 C = some (.lst (trues i))) ⟨same_new nC, upd_same⟩ (fun i H2 h => ⟨SqT.of (h.1 _ _ hp1), SqT.of (h.1 _ _ hq1)⟩) ?_ ?_
        · rintro i x y T2 H2 hx hy ⟨s2, eC⟩ nT2
          have sT2 := same_new (o := .tup [x, y]) nT2
          refine ⟨T2, [x, y], rfl, SqT.of upd_same, rfl, _, _, rfl, _, _, rfl, rfl, rfl, ?_⟩
          unfold tYes
          show ite (true = true) _ _
          rw [if_pos rfl]
          have hi : i < xs.length := (List.getElem?_eq_some_iff.mp hx).1
          refine ⟨x, rfl, y, rfl, x, y, rfl, (paired_at hpr hx hy).same (sT.trans (s2.trans sT2)), fun H3 s3 => ⟨_, s3 _ _ (sT2 _ _ eC), ?_, fun b o e => ?_, ?_⟩⟩
          · unfold trues
            rw [List.length_map, List.length_replicate]
            exact Nat.lt_of_le_of_lt (show i ≤ 1000 by omega) (by decide)
          · rw [upd_ne (ne_of_none e nC)]
            exact s3 _ _ (sT2 _ _ (s2 _ _ e))
          · rw [upd_same, trues_snoc]
        · rintro H2 ⟨s2, eC⟩
          refine ⟨C, List.replicate xs.length true, rfl, SqL.of eC, ?_⟩
          rw [trues_all]
          exact k _ (sT.trans s2)
end

/-! ### replace where a token is out for sure -/
section
variable {X : Cx} {a b o e : Expr} {ta tb to te : TE} {pos : Pos}
theorem ek_str {x : Str} {j : Nat} : EK X (.Constant (.str x) j pos) (tC (.str x)) :=
  ⟨fun pins s σ H Q I h => Calls.Constant_str ⟨Nat.le_add_left 1 _, .str x, H, I.tok _, ⟨_, rfl⟩, h⟩⟩
theorem ek_slF {r : V → Option Int → Option Int → Hp → VK → Prop} {n : Int} {j : Nat} {p1 p2 : Pos} (hr : SlR X r) (he : PE X e te) : EK X (.Subscript e (.Slice (some (.Constant (.int n) j p1)) none none p2) pos) (tSl r te (tPart (tC (.int n))) tNoPart) := by
  refine ⟨fun pins s σ H Q I h => ?_⟩
  refine Subscript_ (thn (he.run pins s σ H _ I h) fun v s1 ⟨x, H1, I1, r1, q1⟩ => ?_)
  obtain ⟨i, ei, q1⟩ := q1
  cases ei
  refine wpAny_Slice ?_
  rw [evalPart_some]
  refine wpAny_Constant_int ?_
  rw [evalPart_none]
  refine wpAny_pure ?_
  refine wpAny_pure ?_
  have I3 : Inv X pins σ H1 { s1 with toks := s1.toks + 1 } := I1.tok _
  have I4 : Inv X pins σ H1 { s1 with heap := s1.heap.push { cls := .type "slice", data := .fields #[.int n s1.toks, .none, .none] }, toks := s1.toks + 1 } := I3.kept (t' := s1.toks + 1) fun b ob q => Heap.get?_push_of_some _ q
  obtain ⟨T, id, hT, ht, hg⟩ := hr pins { s1 with heap := s1.heap.push { cls := .type "slice", data := .fields #[.int n s1.toks, .none, .none] }, toks := s1.toks + 1 } σ H1 x v (.int n s1.toks) .none (some n) none s1.heap.objs.size Q I4 r1 (Heap.IsSliceOf.new ..) (.int n s1.toks) .none q1
  exact thnK (Nat.le_add_left 1 _) (tail_any (ops := [.ref s1.heap.objs.size, v]) ht hT hg (by with_unfolding_all rfl)) fun u s' k q => ⟨k, q⟩
theorem ek_m1 {id : String} {name : Str} {apos pos : Pos} {r : V → List V → Hp → VK → Prop} (slot : Slot "str" name id) (ty : typeOf (.builtin id) = pure (.type "method_descriptor")) (rule : MtR X id r) (ho : EK X o to) (he : PE X e te)
    (hs : starEach [e] X.env = [(false, eval e X.env)] := by rfl) (hbase : attributeBase o name X.env (eval o X.env) = eval o X.env := by rfl) (hline : (apos.endLine == pos.line) = true := by rfl) :
    EK X (.Call (.Attribute o name apos) [e] [] pos) (tM1 r to te) := by
  refine ⟨fun pins s σ H Q I h => ?_⟩
  refine PySem.Call_method1 hbase hs hline (thn (ho.run pins s σ H _ I h) fun v s1 ⟨k1, x, H1, I1, r1, q1⟩ => ?_)
  obtain ⟨⟨a, rfl⟩, q1⟩ := q1
  obtain ⟨t, rfl⟩ := _root_.id r1
  refine ⟨"str", _, F.plainAttrs_str, slot, ty, typeIs_str _ _ _, (fun _ e => nomatch e), Calls.callWith_builtin rfl (Calls.evalArgs_plain (Calls.spliced_cons ?_))⟩
  exact thnK k1 (he.run pins s1 σ H1 _ I1 q1) fun u s2 k2 ⟨y, H2, I2, r2, q2⟩ => Calls.spliced_nil (thnK k2 (rule pins s2 σ H2 _ [y] _ [u] Q I2 r1 (.cons r2 .nil) q2) fun w s3 k3 q => ⟨k3, q⟩)
theorem ek_op {op : Operator} {r : R2} (ho : OpR X (binaryOp op) r) (ha : EK X a ta) (hb : PE X b tb) : EK X (.BinOp a op b pos) (tOp r ta tb) := by
  refine ⟨fun pins s σ H Q I h => wpAny_BinOp ?_⟩
  refine thn (ha.run pins s σ H _ I h) fun v s1 ⟨k1, x, H1, I1, r1, q1⟩ => ?_
  refine thnK k1 (hb.run pins s1 σ H1 _ I1 q1) fun u s2 k2 ⟨y, H2, I2, r2, q2⟩ => ?_
  exact thnK k2 (ho pins s2 σ H2 x y v u Q I2 r1 r2 q2) fun w s3 k3 q => ⟨k3, q⟩
theorem et_replT {y z0 : Str} {n : Int} {j0 j1 j2 : Nat} {c0 c1 c2 bp apos pos : Pos} (ho : ET X o to) (ok : MulOk z0 n) (h1 : ¬ n < 1) (h2 : (n == 1 || z0.length == 0) = false) (hyz : (y == Txt.mul z0 n) = false)
    (hst : starEach [.Constant (.str y) j0 c0, .BinOp (.Constant (.str z0) j1 c1) .Mult (.Constant (.int n) j2 c2) bp] X.env = [(false, eval (.Constant (.str y) j0 c0) X.env), (false, eval (.BinOp (.Constant (.str z0) j1 c1) .Mult (.Constant (.int n) j2 c2) bp) X.env)] := by rfl)
    (hbase : attributeBase o "replace" X.env (eval o X.env) = eval o X.env := by rfl) (hline : (apos.endLine == pos.line) = true := by rfl) : ET X (.Call (.Attribute o "replace" apos) [.Constant (.str y) j0 c0, .BinOp (.Constant (.str z0) j1 c1) .Mult (.Constant (.int n) j2 c2) bp] [] pos) (tRepl y (Txt.mul z0 n) to) := by
  refine ⟨fun pins s σ H Q hk I h => ?_⟩
  refine PySem.Call_method2 hbase hst hline (thnK hk (ho.run pins s σ H _ hk I h) fun v s1 k1 ⟨x, H1, I1, r1, a, ex, hb, q⟩ => ?_)
  subst ex
  obtain ⟨tx, rfl⟩ := r1
  refine ⟨"str", _, PySem.F.plainAttrs_str, PySem.F.slot_str_replace, PySem.F.type_str_replace, typeIs_str _ _ _, (fun _ e => nomatch e), Calls.callWith_builtin rfl (Calls.evalArgs_plain (Calls.spliced_cons (Calls.Constant_str (Calls.spliced_cons (wpAny_BinOp (Calls.Constant_str (wpAny_Constant_int (mul_made ok h1 h2 (Calls.spliced_nil ?_)))))))))⟩
  exact replace_N (by show s1.toks ≠ 0; omega) (by simp) (by show s1.toks ≠ _; simp; omega) hyz hb fun t' k => ⟨.str _, H1, I1.tok k, ⟨t', rfl⟩, q⟩
theorem pss_KT {st1 st2 : Stmt} {rest : List Stmt} {t u v : TS} (h1 : SK X st1 t) (h2 : ST X st2 u) (h3 : PSs X rest v) : PSs X (st1 :: st2 :: rest) (tCut t (tSeq u v)) := by
  refine ⟨fun pins s σ H D I h => ?_⟩
  obtain ⟨Mid, hm, hu⟩ := h
  refine wpAny_execs_cons (thn (h1.run pins s σ H { D with nx := Mid } I hm) fun f s1 ⟨k1, q⟩ => ?_)
  cases f with
  | next =>
    obtain ⟨σ', H', I', q⟩ := q
    have hu := hu σ' H' q
    refine wpAny_execs_cons (thn (h2.run pins s1 σ' H' { D with nx := v D } k1 I' hu) fun f s2 q => ?_)
    cases f with
    | next =>
      obtain ⟨σ2, H2, I2, q⟩ := q
      exact h3.run pins s2 σ2 H2 D I2 q
    | ret v => exact q
    | brk => exact q
    | cont => exact q
  | ret v => exact q
  | brk => exact q
  | cont => exact q
end

/-! ### a lambda handed to a def that asks it within a try -/
open LamX
theorem Takes.len {X : Cx} {W : WX} (tk : Takes X W) : Takes X (fun cls d σ H => σ.length = X.N.length → W cls d σ H) := fun u s' ⟨a, B, sI, pins, σ, H, cls, d, e, I, nb, up, sky, na, os, ag, w⟩ =>
  tk u s' ⟨a, B, sI, pins, σ, H, cls, d, e, I, nb, up, sky, na, os, ag, w I.len⟩
theorem exm_self {K : PySem.W.Frag} {mg : Str → Option Value} {B : Addr} (T : Err_BadText K mg B) : PySem.W.exmOne K (.ref B) (.ref B) = some true := by
  unfold PySem.W.exmOne
  rw [T.exc.hs, if_pos (by decide)]
  unfold PySem.W.kitCls
  dsimp only
  have h3 : ((PySem.W.clsIn K B).isSome && PySem.W.typeIn K (.ref B) == some (.type "type")) = true := by
    have h1 : (PySem.W.clsIn K B).isSome = true := T.iE
    rw [h1, T.oex.tyC]
    rfl
  rw [h3, if_pos rfl, T.sE]
/-- defs that may raise, held by a name -/
structure HeldX (P : Program) (w : World) (K : PySem.W.Frag) (mg : Str → Option Value) (base : Heap) (k : Nat) (f : Addr) (sp : Sp) : Prop where
  ex : ∃ (fd : FuncData) (ps : List Str), FnOk P w K mg base (L2.CX P w) k f fd ps sp ∧ PySem.W.keepIn K (.ref f) = true ∧ Binds K fd ps []
theorem OwnX.held {P : Program} {w : World} {K : PySem.W.Frag} {mg : Str → Option Value} {base : Heap} {x : Str} {j k : Nat} {ps : List Str} {sp : Sp} (O : OwnX P w K mg base x j ps [] sp) (h : j ≤ k) : ∃ f, mg x = some (.ref f) ∧ HeldX P w K mg base k f sp := by
  obtain ⟨f, fd, ds, F, hm, hk, hb, hd⟩ := O.ex
  cases hd
  exact ⟨f, hm, fd, ps, F.mono h, hk, hb⟩
def tCallAX (i : Nat) (S : Addr → Sp → Prop) (E : XK) (t : TA) : TE := fun σ H Q => ∃ f sp, σ[i]? = some (some (.ref f)) ∧ S f sp ∧ t σ H fun vs H1 => sp vs H1 Q E
section
variable {X : Cx} {k i : Nat} {x : Str} {p pos : Pos} {e : Expr} {es : List Expr} {t : TA} {E : XK}
theorem pe_callAX {S : Addr → Sp → Prop} (A : ∀ f sp, S f sp → HeldX X.prog X.w X.K X.mg X.base k f sp) (hr : Room k X.A) (hx : Passes (L2.CX X.prog X.w) X E) (hN : X.N[i]? = some x) (hv : Vis X.env.scope x) (ha : PA X (e :: es) t)
    (hdb : (x == ("__debug__" : Str)) = false := by decide) (hcd : (x == ("__classdict__" : Str)) = false := by decide)
    (he : starEach (e :: es) X.env = (false, eval e X.env) :: starEach es X.env := by rfl) (hpl : (backTo pos (starEach es X.env)).any (·.1) = false := by rfl) : PE X (.Call (.Name x p) (e :: es) [] pos) (tCallAX i S E t) :=
  ⟨fun pins s σ H Q I ⟨f, sp, hs, hS, ht⟩ => by
    obtain ⟨fd, ps, F, hk, hb⟩ := (A f sp hS).ex
    have key := pe_callL (pos := pos) (p := p) (dvs := []) F hr hN hv hk hb .nil hx ha hdb hcd he hpl
    refine key.run pins s σ H Q I ⟨hs, ?_⟩
    simpa only [List.append_nil] using ht⟩
end
/-- a def that takes a lambda, as its callers see it -/
structure OwnL (K : PySem.W.Frag) (mg : Str → Option Value) (x : Str) (st : Stmt) : Prop where
  ex : ∃ f fd, Fn K x st [] f fd ∧ mg x = some (.ref f)
section
variable {X : Cx} {x a : Str} {st : Stmt} {Ng : List Str} {c P : Addr} {k : Nat} {TT : (XK → Hp → VK → Prop) → Hp → VK → Prop} {params : Arguments} {body : Expr} {scope : Scope} {t : XK → TE} {p lpos pos : Pos}
theorem pe_lamL (O : OwnL X.K X.mg x st) (hb : ∀ {f fd}, Fn X.K x st [] f fd → L2.Binds X.K fd [a] []) (hr : Room (k + 2) X.A) (hg : Gl X x) (Sg : FnScope Ng [a] (defScope st)) (hNg : Ng[0]? = some a) (hva : Vis (defScope st) a)
    (hG : ∀ (g : Addr) (cdg : Value), GivesTo X Ng x (defScope st) g cdg (defBody st) a (X.env.qual ++ "<lambda>") TT) (TB : TabB X.base X.mg c P) (hcode : X.env.code = .ref c) (L : LamS X.env.scope scope)
    (hbody : ∀ (A : Around) (outer : List Env) (s : Shared) (H : Hp) (E : XK) (f c' : Addr), Room k (A.deeper (lamEnv X scope s.heap.objs.size f c')) → PE (lamCx X A outer s H E scope f c') body (t E))
    (hdef : defaultsOf params X.env = ([], []) := by rfl) (hbind : ∀ (q : Str) (cl : List (Str × Addr)) (pm cv ctv : Value), bindArgs (PySem.W.kla_fn "<lambda>" q params body scope cl pm cv ctv) ⟨[], []⟩ = pure [] := by intros; rfl)
    (hdb : (x == ("__debug__" : Str)) = false := by decide) (hd : (a == ("__debug__" : Str)) = false := by decide) (hcd : (a == ("__classdict__" : Str)) = false := by decide) :
    PE X (.Call (.Name x p) [.Lambda params body scope lpos] [] pos) (tLam [(P, X.env.qual ++ "<lambda>")] TT t) := by
  obtain ⟨g, fd, F, hm⟩ := O.ex
  have hk := F.kp
  have hbd := hb F
  obtain ⟨oc, od, dV, kV, doc, pm, an, cdv, ct, osl, rfl, lk, hcg, _⟩ := F.ex
  refine pe_lamcall hg hm hk lk hcg hbd Sg hNg hva (hG g cdv) TB hcode (List.mem_singleton.mpr rfl) (fun q hq _ => ?_) hr L hdef hbind hbody hdb hd hcd
  rw [List.mem_singleton.mp hq]
end
/-- _law_wrong: what a question tells, or what the error of a text holds -/
def TWrong (B : Addr) : (XK → Hp → VK → Prop) → Hp → VK → Prop := fun tl H Q => ∀ H0, Same H H0 →
  tl (fun cls d H1 => cls = .ref B ∧ ∃ (dd : Addr) (l r f : V), d = some dd ∧ H1 dd = some (.xd [("found", f), ("reason", r), ("line", l)]) ∧ ∀ H2 T, Same H1 H2 → H1 T = none → H2 T = some (.tup [l, r, f]) → Q (.ref T) H2) H0
    fun v H1 => ∀ H2 T, Same H1 H2 → H1 T = none → H2 T = some (.tup [.str "told", v]) → Q (.ref T) H2
theorem pss_ts {X : Cx} {st : List Stmt} {t t' : TS} (h : PSs X st t) (i : ∀ D σ H, t' D σ H → t D σ H) : PSs X st t' := ⟨fun pins s σ H D I h' => h.run pins s σ H D I (i D σ H h')⟩
theorem pss_if {X : Cx} {st : List Stmt} {p : Prop} {t : TS} (h : p → PSs X st t) : PSs X st (fun D σ H => p ∧ t D σ H) := ⟨fun pins s σ H D I h' => (h h'.1).run pins s σ H D I h'.2⟩
theorem pss_ex {ι : Type} {X : Cx} {st : List Stmt} {t : ι → TS} (h : ∀ i, PSs X st (t i)) : PSs X st (fun D σ H => ∃ i, t i D σ H) := ⟨fun pins s σ H D I ⟨i, h'⟩ => (h i).run pins s σ H D I h'⟩
def tSu (a dd : Addr) : TS := fun D σ H => ∃ (l r f : V) (v0 v1 : Option V), σ = [v0, v1, some (.ref a)] ∧ H dd = some (.xd [("found", f), ("reason", r), ("line", l)]) ∧ ∀ T, H T = none → D.nx [v0, some (.ref T), some (.ref a)] (upd H T (.tup [l, r, f]))
theorem pe_mono {X : Cx} {e : Expr} {t : TE} (h : PE X e t) : PE X e (fun σ H Q => ∃ Q' : VK, (∀ v H1, Q' v H1 → Q v H1) ∧ t σ H Q') := ⟨fun pins s σ H Q I ⟨Q', i, h'⟩ =>
  wpAny_mono (h.run pins s σ H Q' I h') (fun _ _ ⟨v, H1, I1, r, q⟩ => ⟨v, H1, I1, r, i _ _ q⟩) fun _ _ z => z⟩
def tBo (c' : Addr) (q : Str) (f : Addr) (tl : XK → Hp → VK → Prop) (Ech : XK) : TS := fun D σ H => ∃ v1 v2, σ = [some (.ref f), v1, v2] ∧ H c' = some (CodeO c' q) ∧ ∃ Q' : VK, (∀ v H1, Q' v H1 → ∀ T, H1 T = none → D.nx [some (.ref f), some (.ref T), v2] (upd H1 T (.tup [.str "told", v]))) ∧ tl Ech H Q'
theorem gives_wrong {X : Cx} {B E : Addr} {g : Addr} {cdg : Value} {q : Str} (T : Err_BadText X.K X.mg B) (mE : X.mg "PromptError" = some (.ref E)) (kE : PySem.W.kitOne X.K (.ref B) (.ref E) = some true) (mI : X.mg "isinstance" = none) :
    GivesTo X ["ask", "found", "e"] "_law_wrong" (defScope s_law_wrong) g cdg (defBody s_law_wrong) "ask" q (TWrong B) := by
  intro f c' s H Q tl act hc h
  have nd : (["ask", "found", "e"] : List Str).Nodup := by decide +kernel
  refine ⟨_, pss_cons (ps_set (i := 1) nd rfl (.inl rfl) (pe_tup (pa_cons pe_str pa_nil)))
    (pss_cons (ps_try_as (i := 2) (c := .ref B)
      (tb := fun W D σ H => ∃ Ech : XK, (∀ cls d σ' H', Ech cls d H' → σ'.length = 3 → W cls d σ' H') ∧ tBo c' q f tl Ech D σ H)
      (ts := fun a cls d D σ H => ∃ dd, (cls = .ref B ∧ d = some dd) ∧ tSu a dd D σ H)
      rfl rfl nd rfl rfl ⟨rfl, by decide, .inl T.mgC⟩ takes0 (fun W pn xe tk _ => ?_) (fun a oe cls d pn hz hf => ?_))
    (pss_one (ps_ret (pv 1)))), ?_⟩
  · refine pss_ex fun Ech => pss_if fun hW => pss_ts (pss_one (ps_set (i := 1) nd rfl (.inl rfl) (pe_tup (pa_cons pe_str (pa_cons (pe_mono (act (fun cls d σ H => σ.length = 3 → W cls d σ H) pn xe Ech _ _ (Takes.len tk) hW)) pa_nil))))) fun D σ H h' => ?_
    obtain ⟨v1, v2, rfl, h2, Q', i, h3⟩ := h'
    exact ⟨Q', fun v H1 q => ⟨by show 2 ≤ sizeLine; decide, fun T nT => i v H1 q T nT⟩, rfl, h2, h3⟩
  · refine pss_ex fun dd => pss_if fun hh => ?_
    obtain ⟨rfl, rfl⟩ := hh
    refine pss_ts (pss_one (ps_set (i := 1) nd rfl (.inl rfl) (pe_ifExp (pt_val (pe_callB (call_isEd T.exc hz hf) (by rfl) mI (by decide +kernel) (pa_cons (pv 2) (pa_cons (pe_glob (v := .ref E) rfl mE rfl) pa_nil))))
      (pe_tup (pa_cons (pe_xf T.xf T.n_line hz hf (pv 2)) (pa_cons (pe_xf T.xf T.n_reason hz hf (pv 2)) (pa_cons (pe_xf T.xf T.n_found hz hf (pv 2)) pa_nil)))) (pe_tup (pa_cons pe_str pa_nil))))) fun D σ H h' => ?_
    obtain ⟨l, r, fo, v0, v1, rfl, ed, k⟩ := h'
    exact ⟨.ref a, rfl, .ref E, .ref E, true, _, rfl, ed, fun u r => r, kE, true, rfl, iteT ⟨.ref a, rfl, rfl, rfl, dd, _, l, rfl, ed, rfl, .ref a, rfl, rfl, rfl, dd, _, r, rfl, ed, rfl, .ref a, rfl, rfl, rfl, dd, _, fo, rfl, ed, rfl, by show 3 ≤ sizeLine; decide, fun T nT => k T nT⟩⟩
  · refine ⟨by show 1 ≤ sizeLine; decide, fun T0 n0 => ?_⟩
    have s0 := same_new (o := .tup [.str "odd"]) n0
    refine ⟨_, fun cls d σ' H' hE hl => ?_, some (.ref T0), none, rfl, s0 _ _ hc, _, fun v H1 q T nT => ?_, h _ s0⟩
    · obtain ⟨rfl, dd, l, r, fo, rfl, ed, k⟩ := hE
      obtain ⟨x, y, z, rfl⟩ : ∃ x y z, σ' = [x, y, z] := by
        match σ', hl with
        | [x, y, z], _ => exact ⟨x, y, z, rfl⟩
      refine ⟨true, exm_self T, fun _ a na => ⟨dd, ⟨rfl, rfl⟩, l, r, fo, x, y, rfl, ed, fun T nT => ⟨.ref T, rfl, k _ T (same_new nT) nT upd_same⟩⟩, fun z => Bool.noConfusion z⟩
    · exact ⟨.ref T, rfl, q _ T (same_new nT) nT upd_same⟩
theorem sc_law_wrong3 : FnScope ["ask", "found", "e"] ["ask"] (defScope s_law_wrong) := ⟨rfl, rfl, rfl, by decide +kernel, rfl, by decide +kernel, by decide +kernel⟩
def rJoinK (K' : PySem.W.Frag) : V → List V → Hp → VK → Prop := fun x xs H Q => ∃ (a : Str) (p : Addr) (ys : List Str), x = .str a ∧ xs = [.ref p] ∧ (SqL K' H p (ys.map V.str) ∨ SqT K' H p (ys.map V.str)) ∧ (ys.map (·.length)).sum + ys.length * a.length ≤ 16777216 ∧ Q (.str (Txt.join a ys)) H
theorem mt_joinK {X : Cx} {K' : PySem.W.Frag} (hK : X.K = K') : MtR X "str.join" (rJoinK K') := by
  subst hK
  exact mt_join
/-- one of three defs -/
def AskS (f1 f2 f3 : Addr) (s1 s2 s3 : Sp) : Addr → Sp → Prop := fun f sp => (f = f1 ∧ sp = s1) ∨ (f = f2 ∧ sp = s2) ∨ (f = f3 ∧ sp = s3)
section
variable {P : Program} {w : World} {K : PySem.W.Frag} {mg : Str → Option Value} {base : Heap}
theorem askS_held {k : Nat} {f1 f2 f3 : Addr} {s1 s2 s3 : Sp} (h1 : HeldX P w K mg base k f1 s1) (h2 : HeldX P w K mg base k f2 s2) (h3 : HeldX P w K mg base k f3 s3) : ∀ f sp, AskS f1 f2 f3 s1 s2 s3 f sp → HeldX P w K mg base k f sp := by
  rintro f sp (⟨rfl, rfl⟩ | ⟨rfl, rfl⟩ | ⟨rfl, rfl⟩)
  · exact h1
  · exact h2
  · exact h3
/-- the law's def, its code object known -/
theorem fn_tab {N ps : List Str} {x : Str} {st : Stmt} {f c : Addr} {k : Nat} {sp : Sp} {dV kV doc pm ct oc : Value} {an od : Option Addr} {osl : Array (Option Value)} (lk : K.lookup f = some ⟨oc, od, .func (PySem.W.fnOf x x (defArgs st) (defBody st) (defScope st) dV kV doc pm an (.ref c) ct), osl⟩) (hcd : PySem.W.codeIn K (.ref c) x = true)
    (S : FnScope N ps (defScope st)) (len : ∀ vs H Q E, sp vs H Q E → vs.length = ps.length)
    (hbody : ∀ (A : Around) (outer : List Env) (s : Shared) (H : Hp) (vs : List V) (Q : VK) (E : XK), Room k (A.deeper (envOfC x (defScope st) s.heap.objs.size f (.ref c))) → sp vs H Q E →
      ∃ t, PSs (cxOf CX0 P w K mg base N x (defScope st) f (.ref c) A outer s H E).nox (defBody st) t ∧ t { nx := fun _ H' => Q .non H', rt := Q } (start N vs) H) :
    FnOk P w K mg base CX0 (k + 1) f (PySem.W.fnOf x x (defArgs st) (defBody st) (defScope st) dV kV doc pm an (.ref c) ct) ps sp :=
  fn_of lk hcd S len fun A outer s H vs Q E hr h => by
    obtain ⟨t, h1, h2⟩ := hbody A outer s H vs Q E hr h
    exact ⟨t, h1.nox, h2⟩
end

/-! ### taken from other texts of ours -/
/-- all signs are signs -/
def okS (x : Str) : Prop := strOkL (tl x) = true
where strOkL (l : List Nat) : Bool := l.all (· < 1114112)
theorem okS_iff {x : Str} : okS x ↔ ∀ c ∈ tl x, c < 1114112 := by
  unfold okS okS.strOkL
  rw [List.all_eq_true]
  exact ⟨fun h c hc => of_decide_eq_true (h c hc), fun h c hc => decide_eq_true (h c hc)⟩
theorem okS_str {x : Str} (h : okS x) : PyData.strOk x = true := by
  unfold PyData.strOk
  rw [Array.all_eq_true_iff_forall_mem]
  intro c hc
  exact decide_eq_true (okS_iff.mp h c (Array.mem_toList_iff.mpr hc))
theorem dp_strs {K : PySem.W.Frag} {H : Hp} : ∀ (ns : List Str), DpAll K H (ns.map V.str) (ns.map PyData.str)
  | [] => .nil
  | x :: r => .cons (.str x) (dp_strs r)
theorem canLay_strs (ns : List Str) (h : ∀ x ∈ ns, okS x) : PyData.canLayAll0 (ns.map PyData.str) = true := by
  induction ns with
  | nil => rfl
  | cons x r ih =>
    have h1 := okS_str (h x (List.mem_cons_self ..))
    have h2 := ih fun y hy => h y (List.mem_cons_of_mem _ hy)
    simp only [List.map_cons, PyData.canLayAll0, PyData.canLay0, Bool.and_eq_true]
    exact ⟨h1, h2⟩
theorem depth_strs (ns : List Str) : PyData.depthAll (ns.map PyData.str) ≤ 1 := by
  induction ns with
  | nil => simp [PyData.depthAll]
  | cons x r ih => simp [PyData.depthAll, PyData.depth]; omega
theorem shaped_strs (ns : List Str) (h : ∀ x ∈ ns, okS x) : SeqAt.shaped (.list (ns.map PyData.str)) = true := by
  have h1 := canLay_strs ns h
  have h2 := depth_strs ns
  simp [SeqAt.shaped, PyData.canLay0, PyData.depth, h1]
  omega
theorem eqv_nilS (ns : List Str) : PyData.eqv (.list (ns.map PyData.str)) (.list []) = ns.isEmpty := by
  cases ns <;> simp [PyData.eqv, PyData.eqvAll]
theorem fresh_ne {H : Hp} {D A B p : Addr} {n : Int} (d : Drw H D A B n) (h : H p = none) : p ≠ D ∧ p ≠ A := by
  obtain ⟨⟨_, e1⟩, ⟨_, e2⟩, _⟩ := d.tracked
  exact ⟨(ne_of_none e1 h).symm, (ne_of_none e2 h).symm⟩
theorem Kept.fresh {D A : Addr} {H H0 H1 : Hp} (s : Same H H0) (k : Kept D A H0 H1) : Kept D A H H1 := fun b o e n1 n2 => k b o (s b o e) n1 n2
theorem laid {H H1 : Hp} {p : Addr} {o : HO} (h : L2.upd H p o = H1) (n : H p = none) : Same H H1 ∧ H1 p = some o := by
  subst h
  exact ⟨same_new n, upd_same⟩
def intsV (js : List Nat) : List V := js.map fun j : Nat => V.int (j : Int)
theorem ints_of {js : List Nat} {i : Nat} {v : V} (h : (intsV js)[i]? = some v) : ∃ j ∈ js, v = .int (j : Int) := by
  unfold intsV at h
  rw [List.getElem?_map] at h
  obtain ⟨j, hj, rfl⟩ := Option.map_eq_some_iff.mp h
  exact ⟨j, List.mem_of_getElem? hj, rfl⟩
theorem mem_le {js : List Nat} {b j : Nat} (h : js.all (· ≤ b) = true) (hj : j ∈ js) : j ≤ b := of_decide_eq_true (List.all_eq_true.mp h j hj)
def okc (l : List Nat) : Bool := l.all fun c => decide (32 ≤ c) && decide (c < 127)
def rNeE (K : PySem.W.Frag) : R2 := fun x y H Q => ∃ (a b : Addr) (xs : List V), x = .ref a ∧ y = .ref b ∧ SqL K H a xs ∧ SqL K H b [] ∧ Q (.bl (!xs.isEmpty)) H
theorem op_neE {X : Cx} (hu : X.A.units + 64 < cLine) : OpR X (compareOp .NotEq) (rNeE X.K) := by
  intro pins s σ H x y v u Q I rx ry h
  obtain ⟨a, b, xs, rfl, rfl, ha, hb, q⟩ := h
  cases xs with
  | nil =>
    refine op_neD hu pins s σ H _ _ v u Q I rx ry ⟨_, _, .lst ha .nil, .lst hb .nil, shaped_strs [] nofun, shaped_strs [] nofun, ?_⟩
    have ev : PyData.eqv (.list []) (.list []) = true := eqv_nilS []
    rw [ev]
    exact q
  | cons c r =>
    cases (show v = Value.ref a from rx)
    cases (show u = Value.ref b from ry)
    obtain ⟨us, r1, p1, _⟩ := I.list ha
    obtain ⟨ws, r2, p2, _⟩ := I.list hb
    have hsz : (us.toArray.size != ws.toArray.size) = true := by
      rw [List.size_toArray, List.size_toArray, ← r1.length, ← r2.length]
      rfl
    exact SeqAt.RcNeAt.lists_lengths p1.isList p2.isList hsz (by omega) X.prog X.w X.xe _ ⟨.bl true, H, I, rfl, q⟩
theorem expT_id {l : List Nat} (h : okc l = true) : ∀ col, Mun.expT 8 col l = l := by
  induction l with
  | nil => exact fun _ => rfl
  | cons c r ih =>
    intro col
    unfold okc at h
    rw [List.all_cons, Bool.and_eq_true, Bool.and_eq_true, decide_eq_true_eq, decide_eq_true_eq] at h
    rw [expc (by omega), if_neg (by omega), ih h.2]
theorem ten_last : ∀ ls : List (List Nat), ls ≠ [] → joinL [10] ls ++ [10] = joinL [10] (ls ++ [[]])
  | [], h => absurd rfl h
  | [a], _ => by
    show a ++ [10] = a ++ ([10] ++ [])
    rfl
  | a :: b :: r, _ => by
    rw [List.cons_append, joinL_more (ps := b :: r) _ _ (List.cons_ne_nil b r), joinL_more (ps := (b :: r) ++ [[]]) _ _ (by simp), ← ten_last (b :: r) (List.cons_ne_nil b r), List.append_assoc, List.append_assoc]
theorem exp_rows {ls : List (List Nat)} (h : ∀ l ∈ ls, okc l = true) : ls.map (Mun.expT 8 0) = ls := by
  refine (List.map_congr_left fun l hl => ?_).trans (List.map_id _)
  exact expT_id (h l hl) 0
theorem leads_end (R1 : List (List Nat)) : leads (R1 ++ [[]]) = leads R1 := by
  unfold leads
  rw [List.filter_append]
  show (R1.filter _ ++ []).map lead = _
  rw [List.append_nil]
/-- what parsed finds in the text of parts -/
theorem few_of {ls : List (List Nat)} (h : ∀ l ∈ ls, l.length ≤ 200) (n : ls.length ≤ 400) : (wordsAll ls).length ≤ 100000 := by
  have key : ∀ x : List (List Nat), (∀ l ∈ x, l.length ≤ 200) → (wordsAll x).length ≤ x.length * 201 := fun x => by
    induction x with
    | nil => exact fun _ => Nat.zero_le _
    | cons a r ih =>
      intro hx
      have h1 := ih fun l hl => hx l (List.mem_cons_of_mem _ hl)
      have h2 : (dwL a).length ≤ a.length + 1 := by
        have e44 : ("," : Str) = ⟨[44].toArray⟩ := ext_tl (by decide +kernel)
        have lr : (Txt.replace (behindC (dirS (mk a))) "," " ").length = (behindC (dirS (mk a))).length := by
          rw [len_tl, e44, sp_eq, replace_map (behindC (dirS (mk a))) 44 32, List.length_map, ← len_tl]
        have z1 := (behind_sub (dirS (mk a))).2
        have z2 := (dirS_sub (mk a)).2
        rw [mk_len] at z2
        have z3 := (split_sizes (Txt.replace (behindC (dirS (mk a))) "," " ") (y := [32]) (by simp) (by decide)).2
        have z4 : (dwL a).length ≤ (Txt.split (Txt.replace (behindC (dirS (mk a))) "," " ") ⟨[32].toArray⟩).length := by
          unfold dwL dwS wordsS
          rw [sp_eq]
          exact List.length_filter_le _ _
        omega
      have h3 := hx a (List.mem_cons_self ..)
      have h4 : (wordsAll (a :: r)).length = (dwL a).length + (wordsAll r).length := by
        unfold wordsAll
        rw [List.map_cons, List.flatten_cons, List.length_append]
      rw [h4, List.length_cons, Nat.succ_mul]
      omega
  have := key ls h
  have : ls.length * 201 ≤ 400 * 201 := Nat.mul_le_mul_right _ n
  omega
theorem sps_len (n : Nat) : (sps n).length = n := List.length_replicate
theorem firstB_off {ok : List Nat → Bool} {rows pr post : List (List Nat)} : ∀ (k a : Nat), a + k ≤ rows.length → firstB ok (pr ++ (rows ++ post)) (pr.length + a) k = (firstB ok rows a k).map (pr.length + ·)
  | 0, _, _ => rfl
  | k + 1, a, h => by
    have ih := firstB_off (ok := ok) (rows := rows) (pr := pr) (post := post) k (a + 1) (by omega)
    have e : (pr ++ (rows ++ post)).getD (pr.length + a) [] = rows.getD a [] := by
      rw [List.getD_eq_getElem?_getD, List.getD_eq_getElem?_getD, List.getElem?_append_right (by omega), Nat.add_sub_cancel_left, List.getElem?_append_left (by omega)]
    show (if ok ((pr ++ (rows ++ post)).getD (pr.length + a) []) = true then firstB ok (pr ++ (rows ++ post)) (pr.length + a + 1) k else some (pr.length + a)) = Option.map _ (if ok (rows.getD a []) = true then firstB ok rows (a + 1) k else some a)
    rw [e, Nat.add_assoc, ih]
    split <;> rfl
theorem firstB_in {ok : List Nat → Bool} {ws : List (List Nat)} : ∀ (k a j : Nat), firstB ok ws a k = some j → a ≤ j ∧ j < a + k
  | 0, _, _, h => by cases h
  | k + 1, a, j, h => by
    have h : (if ok (ws.getD a []) = true then firstB ok ws (a + 1) k else some a) = some j := h
    split at h
    · have := firstB_in k (a + 1) j h
      omega
    · cases h
      omega
theorem firstB_all {ok : List Nat → Bool} {ws : List (List Nat)} : ∀ (k a : Nat), firstB ok ws a k = none → ∀ j, a ≤ j → j < a + k → ok (ws.getD j []) = true
  | 0, _, _, j, h1, h2 => by omega
  | k + 1, a, h, j, h1, h2 => by
    have h : (if ok (ws.getD a []) = true then firstB ok ws (a + 1) k else some a) = none := h
    split at h
    · rename_i hk
      by_cases e : j = a
      · rw [e]
        exact hk
      · exact firstB_all k (a + 1) h j (by omega) (by omega)
    · cases h
def offF (o : Nat) (f : Nat × Str × Str) : Nat × Str × Str := (o + f.1, f.2.1, f.2.2)
theorem badR_off {rows pr post : List (List Nat)} {m e n : Nat} (hm : 1 ≤ m) (hme : m ≤ e) (he : e = rows.length) : badR (pr ++ (rows ++ post)) pr.length (pr.length + m) (pr.length + e) n = (badR rows 0 m e n).map (offF pr.length) := by
  have gd : ∀ j, j < rows.length → (pr ++ (rows ++ post)).getD (pr.length + j) [] = rows.getD j [] := fun j hj => by
    rw [List.getD_eq_getElem?_getD, List.getD_eq_getElem?_getD, List.getElem?_append_right (by omega), Nat.add_sub_cancel_left, List.getElem?_append_left (by omega)]
  have f1 := firstB_off (ok := blOk n) (rows := rows) (pr := pr) (post := post) m 0 (by omega)
  have f2 := firstB_off (ok := fun l => Txt.startswith (mk l) (Txt.mul " " (n : Int) ++ ".")) (rows := rows) (pr := pr) (post := post) (m - 1) 1 (by omega)
  have f3 := firstB_off (ok := fun l => Txt.startswith (mk l) (Txt.mul " " (n : Int))) (rows := rows) (pr := pr) (post := post) (e - m) m (by omega)
  rw [Nat.add_zero] at f1
  unfold badR
  rw [show pr.length + m - pr.length = m by omega, show pr.length + m - (pr.length + 1) = m - 1 by omega, show pr.length + e - (pr.length + m) = e - m by omega, show m - 0 = m by omega, show m - (0 + 1) = m - 1 by omega, show 0 + 1 = 1 from rfl, f1, f2, f3]
  cases g1 : firstB (blOk n) rows 0 m with
  | some j =>
    have := firstB_in _ _ _ g1
    dsimp only [Option.map]
    rw [gd j (by omega)]
    rfl
  | none =>
    cases g2 : firstB (fun l => Txt.startswith (mk l) (Txt.mul " " (n : Int) ++ ".")) rows 1 (m - 1) with
    | some j =>
      have := firstB_in _ _ _ g2
      dsimp only [Option.map]
      rw [gd j (by omega)]
      rfl
    | none =>
      cases g3 : firstB (fun l => Txt.startswith (mk l) (Txt.mul " " (n : Int))) rows m (e - m) with
      | some j =>
        have := firstB_in _ _ _ g3
        dsimp only [Option.map]
        rw [gd j (by omega)]
        rfl
      | none => rfl
theorem badP_plain {sl : List (List Nat)} (h : wordsAll sl = []) : badP sl = none := by
  unfold badP badW
  rw [h]
  show (if (sl.all remL && !true) = true then _ else none) = none
  rw [Bool.not_true, Bool.and_false, if_neg Bool.false_ne_true]
theorem srcL_at (pr sl wl post : List (List Nat)) (n : Nat) : srcL (pr ++ ((sl ++ wl) ++ post)) pr.length (pr.length + sl.length) n = sl.map (·.drop n) ∧ srcL (pr ++ ((sl ++ wl) ++ post)) (pr.length + sl.length) (pr.length + sl.length + wl.length) n = wl.map (·.drop n) := by
  constructor
  · unfold srcL
    rw [List.drop_left' rfl, Nat.add_sub_cancel_left, List.append_assoc, List.take_left' rfl]
  · unfold srcL
    have e : pr ++ ((sl ++ wl) ++ post) = (pr ++ sl) ++ (wl ++ post) := by simp
    rw [e, List.drop_left' (by rw [List.length_append]), Nat.add_sub_cancel_left, List.take_left' rfl]
theorem nil_or_snoc {α : Type} (l : List α) : l = [] ∨ ∃ l' a, l = l' ++ [a] := by
  rcases List.eq_nil_or_concat l with e | ⟨l', a, e⟩
  · exact .inl e
  · exact .inr ⟨l', a, by rw [e, List.concat_eq_append]⟩
theorem okc_okS {l : List Nat} (h : okc l = true) : okS (mk l) := okS_iff.mpr fun c hc => by
  unfold okc at h
  rw [List.all_eq_true] at h
  have h2 := h c hc
  rw [Bool.and_eq_true, decide_eq_true_eq, decide_eq_true_eq] at h2
  omega
theorem shaped_list {ds : List PyData} (h : PyData.canLayAll0 ds = true) (k : PyData.depthAll ds ≤ 60) : SeqAt.shaped (.list ds) = true := by
  simp [SeqAt.shaped, PyData.canLay0, PyData.depth, h]
  omega
theorem eqv_nilD (ds : List PyData) : PyData.eqv (.list ds) (.list []) = ds.isEmpty := by
  cases ds <;> simp [PyData.eqv, PyData.eqvAll]
def strV (ls : List (List Nat)) : List V := (ls.map mk).map V.str
theorem strV_len (ls : List (List Nat)) : (strV ls).length = ls.length := by
  unfold strV
  rw [List.length_map, List.length_map]
theorem strV_app (a b : List (List Nat)) : strV a ++ strV b = strV (a ++ b) := by
  unfold strV
  rw [List.map_append, List.map_append]
theorem strV_take (a : List (List Nat)) (n : Nat) : (strV a).take n = strV (a.take n) := by
  unfold strV
  rw [← List.map_take, ← List.map_take]
theorem strV_drop (a : List (List Nat)) (n : Nat) : (strV a).drop n = strV (a.drop n) := by
  unfold strV
  rw [← List.map_drop, ← List.map_drop]
theorem strV_get (a : List (List Nat)) {j : Nat} {l : List Nat} (h : a[j]? = some l) : (strV a)[j]? = some (.str (mk l)) := by
  unfold strV
  rw [List.getElem?_map, List.getElem?_map, h]
  rfl
theorem str_mem {ls : List (List Nat)} {i : Nat} {v : V} (h : (strV ls)[i]? = some v) : ∃ l ∈ ls, v = .str (mk l) := by
  unfold strV at h
  rw [List.getElem?_map, List.getElem?_map] at h
  obtain ⟨s, hs, rfl⟩ := Option.map_eq_some_iff.mp h
  obtain ⟨l, hl, rfl⟩ := Option.map_eq_some_iff.mp hs
  exact ⟨l, List.mem_of_getElem? hl, rfl⟩
theorem app_mk (a b : List Nat) : mk a ++ mk b = mk (a ++ b) := ext_tl (tl_append _ _)
theorem cutV_to (xs : List V) (k : Nat) : cutV xs none (some (k : Int)) = xs.take k := by
  unfold cutV
  rw [HT.sIx_none, HT.sIx_nat, List.drop_zero, Nat.sub_zero]
  by_cases h : k ≤ xs.length
  · rw [Nat.min_eq_left h]
  · rw [Nat.min_eq_right (by omega), List.take_of_length_le (Nat.le_refl _), List.take_of_length_le (by omega)]
theorem cutV_from (xs : List V) (k : Nat) (h : k ≤ xs.length) : cutV xs (some (k : Int)) none = xs.drop k := by
  unfold cutV
  rw [HT.sIx_none, HT.sIx_nat, Nat.min_eq_left h]
  exact List.take_of_length_le (by rw [List.length_drop]; exact Nat.le_refl _)
theorem mulOk01 {z : Str} {k : Int} (hk : k = 0 ∨ k = 1) : MulOk z k := by
  rcases hk with rfl | rfl
  · exact ⟨by decide, fun h => absurd (by decide : (0 : Int) < 1) h, fun h => absurd (by decide : (0 : Int) < 1) h⟩
  · refine ⟨by decide, fun _ h => ?_, fun _ h => ?_⟩
    · rw [show ((1 : Int) == 1) = true from rfl, Bool.true_or] at h
      cases h
    · rw [show ((1 : Int) == 1) = true from rfl, Bool.true_or] at h
      cases h
theorem mul_0 (z : Str) : Txt.mul z 0 = mk [] := by
  unfold Txt.mul
  rw [if_pos (by omega)]
  exact ext_tl (by decide +kernel)
theorem mul_1 (l : List Nat) : Txt.mul (mk l) 1 = mk l := by
  unfold Txt.mul
  rw [if_neg (by omega), if_pos (by rfl)]
theorem bl_sign : ((List.range 127).all fun c => inV (.str (mk [c])) [.str "", .str " "] == decide (V.str (Txt.stripChars (mk [c]) " ") = V.str "")) = true := by decide +kernel
theorem bl_nil : inV (.str (mk [])) [.str "", .str " "] = decide (V.str (Txt.stripChars (mk []) " ") = V.str "") := by decide +kernel
theorem cut_len (l : List Nat) (a : Nat) : cutS (mk l) (some ((a : Int) + (3 : Int))) (some ((a : Int) + (3 : Int) + 1)) = mk ((l.drop (a + 3)).take 1) := by
  by_cases h : a + 3 ≤ l.length
  · refine ext_tl ?_
    have := cutS_mid (mk l) (a + 3) (a + 3 + 1) (by rw [mk_len]; exact h)
    refine this.trans ?_
    show (l.drop (a + 3)).take (a + 3 + 1 - (a + 3)) = (l.drop (a + 3)).take 1
    rw [show a + 3 + 1 - (a + 3) = 1 by omega]
  · rw [List.drop_eq_nil_iff.mpr (by omega), List.take_nil]
    refine ext_tl ?_
    have e1 : (a : Int) + 3 = ((a + 3 : Nat) : Int) := rfl
    show (l.drop (HT.sIx (mk l).length 0 (some ((a : Int) + 3)))).take (HT.sIx (mk l).length (mk l).length (some ((a : Int) + 3 + 1)) - HT.sIx (mk l).length 0 (some ((a : Int) + 3))) = []
    rw [e1, HT.sIx_nat, Nat.min_eq_right (by rw [mk_len]; omega), List.drop_of_length_le (by rw [mk_len]; exact Nat.le_refl _), List.take_nil]
theorem bl_strip {l : List Nat} (hl : okc l = true) (a : Nat) : blOk a l = decide (V.str (Txt.stripChars (cutS (mk l) (some ((a : Int) + (3 : Int))) (some ((a : Int) + (3 : Int) + 1))) " ") = V.str "") := by
  unfold blOk
  rw [cut_len]
  cases e : (l.drop (a + 3)).take 1 with
  | nil => exact bl_nil
  | cons c r =>
    have hr : r = [] := by
      have h2 : ((l.drop (a + 3)).take 1).length ≤ 1 := by
        rw [List.length_take]
        omega
      rw [e, List.length_cons] at h2
      exact List.length_eq_zero_iff.mp (by omega)
    subst hr
    have hc : c ∈ l := List.mem_of_mem_drop (List.mem_of_mem_take (by rw [e]; exact List.mem_cons_self ..))
    unfold okc at hl
    have := List.all_eq_true.mp hl c hc
    rw [Bool.and_eq_true, decide_eq_true_eq, decide_eq_true_eq] at this
    have := List.all_eq_true.mp bl_sign c (List.mem_range.mpr this.2)
    exact beq_iff_eq.mp this
theorem take_pre (l y : List Nat) : decide (V.str (cutS (mk l) none (some ((mk y).length : Int))) = V.str (mk y)) = Txt.startswith (mk l) (mk y) := by
  have e : cutS (mk l) none (some ((mk y).length : Int)) = mk (l.take y.length) := ext_tl (by rw [mk_len, cutS_to]; rfl)
  rw [e]
  have hs : Txt.startswith (mk l) (mk y) = pre y l := by
    cases y with
    | nil =>
      have h := starts_sps 0 l
      rw [mul_sps] at h
      have h : Txt.startswith (mk l) (mk []) = true := h
      rw [h]
      rfl
    | cons c r => exact starts_pre (mk l) (by simp)
  rw [hs]
  unfold pre
  rw [Bool.eq_iff_iff, decide_eq_true_eq, beq_iff_eq]
  constructor
  · intro h
    exact congrArg (fun v => match v with | V.str z => tl z | _ => []) h
  · intro h
    rw [h]
def FltB (H : Hp) (v : V) : Option (Nat × Str × Str) → Prop
  | none => v = .non
  | some f => ∃ T, v = .ref T ∧ H T = some (.tup [.int (f.1 : Int), .str f.2.1, .str f.2.2])
theorem strV_at {ls : List (List Nat)} {j : Nat} {v : V} (h : (strV ls)[j]? = some v) : ∃ l, ls[j]? = some l ∧ v = .str (mk l) := by
  unfold strV at h
  rw [List.getElem?_map, List.getElem?_map] at h
  obtain ⟨z, hz, rfl⟩ := Option.map_eq_some_iff.mp h
  obtain ⟨l, hl, rfl⟩ := Option.map_eq_some_iff.mp hz
  exact ⟨l, hl, rfl⟩
theorem getD_at {ls : List (List Nat)} {j : Nat} {l : List Nat} (h : ls[j]? = some l) : ls.getD j [] = l := by
  rw [List.getD_eq_getElem?_getD, h]
  rfl
theorem sum_le {b : Nat} : ∀ {l : List Nat}, (∀ x ∈ l, x ≤ b) → l.sum ≤ b * l.length
  | [], _ => Nat.zero_le _
  | x :: r, h => by
    have i1 := sum_le (l := r) fun y hy => h y (List.mem_cons_of_mem _ hy)
    have i2 := h x (List.mem_cons_self ..)
    rw [List.sum_cons, List.length_cons, Nat.mul_succ]
    omega
theorem TabS.nl {H H' : Hp} {Pt : Addr} {q : Str} (t : LamX.TabS H Pt q) (s : NL H H') : LamX.TabS H' Pt q := by
  obtain ⟨ps, h1, h2, h3⟩ := t
  refine ⟨ps, s _ _ h1 nofun, h2, fun pos cv hc => ?_⟩
  obtain ⟨c, e1, e2⟩ := h3 pos cv hc
  refine ⟨c, e1, s _ _ e2 fun xs z => ?_⟩
  unfold LamX.CodeO at z
  cases z
def Tb (Pt : Addr) (H : Hp) : Prop := LamX.Tabs [(Pt, (envOfC "law" (defScope s_law) 0 0 .none).qual ++ "<lambda>")] H
theorem Tb.nl {H H' : Hp} {Pt : Addr} (t : Tb Pt H) (s : NL H H') : Tb Pt H' := fun p hp => TabS.nl (t p hp) s
theorem Tb.same {H H' : Hp} {Pt : Addr} (t : Tb Pt H) (s : Same H H') : Tb Pt H' := t.nl (NL.same s)
theorem NL.trans {H H1 H2 : Hp} (a : NL H H1) (b : NL H1 H2) : NL H H2 := fun c o h n => b c o (a c o h n) n
theorem Kept.nl {D A B : Addr} {n : Int} {H H' : Hp} (d : Drw H D A B n) (k : Kept D A H H') : NL H H' := fun b o e no => by
  obtain ⟨as, bs, c', e1, e2, _⟩ := d.ex
  refine k b o e (fun z => ?_) (fun z => ?_)
  · rw [z, e1] at e
    exact no _ (Option.some.inj e).symm
  · rw [z, e2] at e
    exact no _ (Option.some.inj e).symm
theorem Drw.ext {H H' : Hp} {D A B : Addr} {n : Int} (h : Drw H D A B n) (k : LamX.ExtN H H') : Drw H' D A B n := by
  obtain ⟨⟨as, bs, c, h1, h2, h3⟩, h4, h5⟩ := h
  exact ⟨⟨as, bs, c, k _ _ h1 nofun, k _ _ h2 nofun, k _ _ h3 nofun⟩, h4, h5⟩
structure OutL (D A B L : Addr) : Prop where
  d : L ≠ D
  a : L ≠ A
  b : L ≠ B
theorem out_of {H : Hp} {D A B L : Addr} {n : Int} (d : Drw H D A B n) (h : H L = none) : OutL D A B L := by
  obtain ⟨_, _, ⟨_, eB⟩⟩ := d.tracked
  exact ⟨(fresh_ne d h).1, (fresh_ne d h).2, (ne_of_none eB h).symm⟩
theorem nl10 : ("\n" : Str) = mk [10] := ext_tl (by decide +kernel)
theorem ix_tupK {X : Cx} {K' : PySem.W.Frag} (hK : X.K = K') : IxR X (rIxT K') := by
  subst hK
  exact ix_tup
theorem flatO_some {d : List (List Nat)} (h : d ≠ []) : flatO d = some (joinL [] d) := by
  cases d with
  | nil => exact absurd rfl h
  | cons a r => rfl
theorem wordS_cut (l : List Nat) : wordS l = (Txt.isalnum (mk (l.take 1)) || decide (V.str (mk (l.take 1)) = V.str "_")) := by
  cases l with
  | nil => decide +kernel
  | cons c r =>
    show (c == 95 || Txt.isalnum ⟨#[c]⟩) = (Txt.isalnum ⟨#[c]⟩ || decide (V.str ⟨#[c]⟩ = V.str "_"))
    rw [us_dec, Bool.or_comm]
theorem sum_le_of {b : Nat} : ∀ {ls : List (List Nat)}, (∀ l ∈ ls, l.length ≤ b) → (ls.map (·.length)).sum ≤ ls.length * b
  | [], _ => Nat.zero_le _
  | a :: r, h => by
    have h1 := h a (List.mem_cons_self ..)
    have h2 := sum_le_of fun l hl => h l (List.mem_cons_of_mem _ hl)
    rw [List.map_cons, List.sum_cons, List.length_cons, Nat.succ_mul]
    omega
theorem kit_tyno {K : PySem.W.Frag} {C : Addr} {T : String} (hm : PySem.W.kitMeta T = true) (sub : PySem.W.subIn K (.ref C) (.type T) = some false) : PySem.W.kitOne K (.ref C) (.type T) = some false := by
  have h2 : (Value.ref C == Value.type T) = false := beq_eq_false_iff_ne.mpr nofun
  unfold PySem.W.kitOne PySem.W.kitCls
  rw [h2, if_neg Bool.false_ne_true]
  dsimp only
  rw [if_pos hm, sub]
theorem err_same (ls : List (List Nat)) : errP (ls.map (· ++ [10])) = errL ls := by
  cases ls with
  | nil => rfl
  | cons h r =>
    unfold errP errL
    rw [List.map_cons]
    dsimp only
    rw [noNl_fed, List.dropWhile_map]
    have e : ((fun l : List Nat => !wordS l) ∘ (· ++ [10])) = fun l => !wordS l := funext fun l => by
      cases l with
      | nil => 
        show (!(10 == 95 || Txt.isalnum ⟨#[10]⟩)) = !false
        decide +kernel
      | cons c r => rfl
    rw [e]
theorem paired_app {α β : Type} {F : α → β → Prop} {us : List α} {zs : List β} (k : Paired F us zs) : ∀ {xs : List α} {ys : List β}, Paired F xs ys → Paired F (xs ++ us) (ys ++ zs)
  | _, _, .nil => k
  | _, _, .cons a r => .cons a (paired_app k r)
theorem cut_end (x : List Nat) (c : Nat) : cutS (mk (x ++ [c])) (some (-1)) none = mk [c] := by
  refine ext_tl ?_
  show ((x ++ [c]).drop (HT.sIx (mk (x ++ [c])).length 0 (some (-1 : Int)))).take (HT.sIx (mk (x ++ [c])).length (mk (x ++ [c])).length none - HT.sIx (mk (x ++ [c])).length 0 (some (-1 : Int))) = [c]
  have e1 : HT.sIx (mk (x ++ [c])).length 0 (some (-1 : Int)) = x.length := by
    rw [mk_len, List.length_append]
    show (if (-1 : Int) < 0 then ((-1 : Int) + ((x.length + 1 : Nat) : Int)).toNat else min (-1 : Int).toNat (x.length + 1)) = _
    rw [if_pos (by decide)]
    omega
  rw [e1, HT.sIx_none, mk_len, List.length_append, List.drop_left' rfl]
  show [c].take (x.length + 1 - x.length) = [c]
  rw [Nat.add_sub_cancel_left]
  rfl
section
variable {P : Program} {w : World} {K : PySem.W.Frag} {mg : Str → Option Value} {base : Heap}
def sp_law_error : Sp := fun vs H Q _ => ∃ (p : Addr) (ws : List (List Nat)), vs = [.ref p] ∧ H p = some (rowsV ws) ∧ (∀ l ∈ ws, l.length ≤ 60 ∧ ∀ c ∈ l, c < 1114112) ∧ ws.length ≤ 20 ∧ ∀ H', Same H H' → Q (optV (errL ws)) H'
theorem ok_law_error {f : Addr} {fd : FuncData} {dvs : List V} (F : Fn K "_law_error" s_law_error dvs f fd) (m_len : mg "len" = none) (m_range : mg "range" = none) : FnOk P w K mg base CX0 1 f fd ["lines"] (sp_law_error) := by
  refine Fn.okN F sc_law_error (fun vs H Q E h => ?_) (fun cdv A outer s H vs Q E hr h => ?_)
  · obtain ⟨_, _, rfl, _⟩ := h
    rfl
  · obtain ⟨p, ws, rfl, hp, hl, hn, k⟩ := h
    refine ⟨_, (pss_cons (ps_set (i := 1) sc_law_error.nd rfl (.inl rfl) (pe_tup (pa_cons pe_str (pa_cons pe_str pa_nil))))
      (pss_cons (ps_if (PW.pt (pw_or (pt_cmpR (op_eqD hr.units) (pv 0) (pe_lst pa_nil) (nomark _)) (pw_or1 (pt_cmpR op_notIn_seq (pe_m1 PySem.F.slot_str_rstrip PySem.F.type_str_rstrip mt_rstripChars (pe_ix ix_list (pv 0) pe_int (fun _ _ => rfl)) pe_str) (pv 1) rfl))))
          (pss_one (ps_ret pe_non))
          pss_nil)
      (pss_cons (ps_for PassesOwn.never rfl (pi_range2 rfl m_range (pa_cons pe_int (pa_cons (pe_callB call_len_seq (by rfl) m_len PySem.boot_len (pa_cons (pv 0) pa_nil)) pa_nil))) (pg_name (i := 2) sc_law_error.nd rfl (.inl rfl))
          (pss_one (ps_if (PW.pt (pw_or (pt_val (pe_m0 PySem.F.slot_str_isalnum PySem.F.type_str_isalnum mt_isalnum (pe_slice sl_str (pe_ix ix_list (pv 0) (pv 2) (fun _ _ => rfl)) po_none (po_some pe_int)))) (pw_or1 (pt_cmpR op_eq (pe_slice sl_str (pe_ix ix_list (pv 0) (pv 2) (fun _ _ => rfl)) po_none (po_some pe_int)) pe_str (nomark _)))))
                (pss_one (ps_ret (pe_m1 PySem.F.slot_str_join PySem.F.type_str_join mt_join pe_str (pe_lc (own := [("each", 3)]) (g := gName 3) (tt := tYes) (by rfl) sc_law_error.nd (pi_list (pe_slice sl_list (pv 0) (po_some (pv 2)) po_none)) (blkOk_by (own := [("each", 3)]) (N := ["lines", "heads", "at", "each"]) (sc := defScope s_law_error) (by decide +kernel)) (fun _ _ _ _ _ => (pg_name (i := 3) sc_law_error.nd rfl (.inl rfl))) (fun _ _ _ _ _ => pts_nil) (fun _ _ _ _ _ => (pe_op op_add_str (pv 3) pe_str))))))
                pss_nil)))
      (pss_one (ps_ret pe_non))))), ?_⟩
    have oks : ∀ x ∈ ws.map mk, okS x := fun x hx => by
      obtain ⟨l, h, rfl⟩ := List.mem_map.mp hx
      exact okS_iff.mpr (hl l h).2
    refine ⟨by show 2 ≤ sizeLine; decide, fun T nT => ?_⟩
    have sT := same_new (o := .tup [.str "Traceback (most recent call last):", .str "Traceback (innermost last):"]) nT
    have tT := upd_same (H := H) (a := T) (o := .tup [.str "Traceback (most recent call last):", .str "Traceback (innermost last):"])
    generalize upd H T (.tup [.str "Traceback (most recent call last):", .str "Traceback (innermost last):"]) = H1 at sT tT ⊢
    refine ⟨.ref p, rfl, by show 0 ≤ sizeLine; decide, fun Z nZ => ?_⟩
    have sZ := same_new (o := .lst []) nZ
    refine ⟨_, _, .lst (SqL.of (sZ _ _ (sT _ _ hp))) (dp_strs _), .lst (SqL.of upd_same) .nil, shaped_strs _ oks, shaped_strs [] nofun, _, rfl, ?_⟩
    have tT2 := sZ _ _ tT
    have s2 := sT.trans sZ
    generalize upd H1 Z (.lst []) = H2 at s2 tT2 ⊢
    have hp2 := s2 _ _ hp
    clear sZ nZ tT sT nT
    rw [eqv_nilS]
    cases ws with
    | nil => exact iteT (iteT (k _ s2))
    | cons h r =>
      have eh : inV (.str (Txt.rstripChars (mk h) " ")) [.str "Traceback (most recent call last):", .str "Traceback (innermost last):"] = isHead h := rfl
      have hh := (hl h (List.mem_cons_self ..)).1
      refine iteF ⟨.ref p, rfl, p, _, 0, .str (mk h), rfl, rfl, SqL.of hp2, atI_nat (j := 0) rfl, ⟨_, rfl⟩, mk h, " ", rfl, rfl, by rw [mk_len]; exact line_of (by omega), .ref T, rfl, T, _, rfl, .inr (SqT.of tT2), rfl, rfl, _, rfl, ?_⟩
      rw [eh]
      unfold errL at k
      dsimp only at k
      cases hd : isHead h with
      | false =>
        rw [hd] at k
        exact iteT (k _ s2)
      | true =>
        rw [hd, if_pos rfl] at k
        have hlen : (((h :: r).map mk).map V.str).length = r.length + 1 := by rw [List.length_map, List.length_map]; rfl
        rw [List.length_cons] at hn
        refine iteF ⟨.ref p, rfl, p, _, rfl, .inl (SqL.of hp2), ?_⟩
        rw [hlen]
        refine ⟨1, ((r.length + 1 : Nat) : Int), rfl, ⟨by decide, by decide, by omega, by omega⟩, for_range (lo := 1) (n := (((r.length + 1 : Nat) : Int) - 1).toNat) (fun i σ H3 => ∃ v2, σ = [some (.ref p), some (.ref T), v2, none] ∧ Same H2 H3 ∧ ∀ j l, j < i → r[j]? = some l → wordS l = false) ⟨_, rfl, fun _ _ e => e, fun j l a _ => absurd a (Nat.not_lt_zero _)⟩ ?_ ?_⟩
        · rintro i σ H3 hi ⟨v2, rfl, s3, hb⟩
          have hir : i < r.length := by omega
          have ei : (1 : Int) + (i : Nat) = ((i + 1 : Nat) : Int) := by omega
          have hl2 : r[i]? = some r[i] := List.getElem?_eq_getElem hir
          have hm := List.mem_of_getElem? hl2
          have hg : (((h :: r).map mk).map V.str)[i + 1]? = some (.str (mk r[i])) := by
            rw [List.getElem?_map, List.getElem?_map, List.getElem?_cons_succ, hl2]
            rfl
          have hll := (hl _ (List.mem_cons_of_mem _ hm)).1
          generalize r[i] = l at hl2 hm hg hll
          have lz : (mk l).length ≤ sizeLine := by rw [mk_len]; exact line_of (by omega)
          have wc := wordS_cut l
          rw [ei]
          refine ⟨.ref p, rfl, .int ((i + 1 : Nat) : Int), rfl, p, _, _, .str (mk l), rfl, rfl, SqL.of (s3 _ _ hp2), atI_nat hg, 1, rfl, mk l, rfl, lz, ⟨_, rfl⟩, _, rfl, rfl, trivial, _, rfl, ?_⟩
          rw [cut_one]
          cases hw : wordS l with
          | false =>
            rw [hw] at wc
            have w2 := Bool.or_eq_false_iff.mp wc.symm
            rw [w2.1]
            refine iteF ⟨.ref p, rfl, .int ((i + 1 : Nat) : Int), rfl, p, _, _, .str (mk l), rfl, rfl, SqL.of (s3 _ _ hp2), atI_nat hg, 1, rfl, mk l, rfl, lz, rfl, _, rfl, ?_⟩
            rw [cut_one, w2.2]
            refine iteF ⟨_, rfl, s3, fun j l' hj hjl => ?_⟩
            rcases Nat.lt_or_ge j i with a | a
            · exact hb j l' a hjl
            · have : j = i := by omega
              rw [this, hl2] at hjl
              cases hjl
              exact hw
          | true =>
            rw [hw] at wc
            refine ite_same ?_ (fun h1 c => iteT c) (fun h1 c => ⟨.ref p, rfl, .int ((i + 1 : Nat) : Int), rfl, p, _, _, .str (mk l), rfl, rfl, SqL.of (s3 _ _ hp2), atI_nat hg, 1, rfl, mk l, rfl, lz, rfl, _, rfl, by
              rw [cut_one, show decide (V.str (mk (l.take 1)) = V.str "_") = true by
                rw [h1, Bool.false_or] at wc
                exact wc.symm]
              exact iteT c⟩)
            have dw : (r.dropWhile fun l => !wordS l) = r.drop i := dropWhile_at hl2 (by rw [hw]; rfl) fun j l' hj hjl => by rw [hb j l' hj hjl]; rfl
            have dn : r.drop i ≠ [] := fun z => by
              have := congrArg List.length z
              rw [List.length_drop] at this
              have z0 : ([] : List (List Nat)).length = 0 := rfl
              omega
            rw [dw, flatO_some (by rw [ne_eq, List.map_eq_nil_iff]; exact dn)] at k
            refine ⟨⟨_, rfl⟩, .ref p, rfl, .int ((i + 1 : Nat) : Int), rfl, _, rfl, p, _, rfl, SqL.of (s3 _ _ hp2), fun q nq => ?_⟩
            have ec : cutV (((h :: r).map mk).map V.str) (some ((i + 1 : Nat) : Int)) none = ((r.drop i).map mk).map V.str := by
              rw [cutV_drop _ _ (by rw [hlen]; omega), List.map_drop, List.map_drop]
              rfl
            have sq := same_new (o := .lst (((r.drop i).map mk).map V.str)) nq
            rw [ec]
            have hq : ∀ l ∈ r.drop i, l.length ≤ 60 := fun l hl' => (hl l (List.mem_cons_of_mem _ (List.mem_of_mem_drop hl'))).1
            have hqn : (r.drop i).length ≤ 20 := by
              rw [List.length_drop]
              omega
            generalize r.drop i = ds at k sq hq hqn ec dn ⊢
            refine ⟨q, rfl, ⟨_, SqL.of upd_same⟩, fun M nM => lc_list (K := K) (a := q) (xs := (ds.map mk).map V.str) (fun i H4 => H4 M = some (rowsV ((ds.take i).map (· ++ [10]))) ∧ Same (upd H3 q (.lst ((ds.map mk).map V.str))) H4) ⟨upd_same, same_new nM⟩ (fun i H4 _ h4 => SqL.of (h4.2 _ _ upd_same)) ?_ ?_⟩
            · rintro i v H4 hv ⟨eM, s4⟩
              obtain ⟨z, rfl, hz⟩ := str_at hv
              rw [List.getElem?_map] at hz
              obtain ⟨l, hl2, rfl⟩ := Option.map_eq_some_iff.mp hz
              have gl := hq l (List.mem_of_getElem? hl2)
              have l1 : ("\n" : Str).length = 1 := rfl
              refine ⟨rfl, ?_⟩
              unfold tYes
              show ite (true = true) _ _
              rw [if_pos rfl]
              refine ⟨.str (mk l), rfl, _, _, rfl, rfl, ?_, _, eM, ?_, ?_, fun b o e => ?_⟩
              · rw [mk_len, l1]
                exact line_of (by omega)
              · rw [List.length_map, List.length_map, List.length_map, List.length_take]
                exact Nat.lt_of_le_of_lt (show min i ds.length ≤ 20 by omega) (by decide)
              · rw [upd_same, List.take_add_one, hl2, List.map_append]
                unfold rowsV
                rw [List.map_append, List.map_append]
                exact congrArg (fun v => some (HO.lst ((((ds.take i).map (· ++ [10])).map mk).map V.str ++ [v]))) (congrArg V.str (ext_tl (by rw [tl_append]; rfl)))
              · rw [upd_ne (ne_of_none e nM)]
                exact s4 b o e
            rintro H4 ⟨eM, s4⟩
            rw [List.length_map, List.length_map, List.take_length] at eM
            refine ⟨"", M, (ds.map (· ++ [10])).map mk, rfl, rfl, .inl (SqL.of eM), ?_, ?_⟩
            · have e0 : ("" : Str).length = 0 := by decide +kernel
              have sb := sum_le_of hq
              rw [e0, Nat.mul_zero, List.map_map]
              show ((ds.map (· ++ [10])).map (·.length)).sum + 0 ≤ _
              rw [sum_fed]
              omega
            · have e0 : ("" : Str) = mk [] := ext_tl (by decide +kernel)
              rw [e0, join_mk]
              exact k _ (s2.trans (s3.trans (sq.trans s4)))
        · rintro σ H3 ⟨v2, rfl, s3, hb⟩
          rw [dropWhile_none (fun l hl => ?_)] at k
          · exact k _ (s2.trans s3)
          · obtain ⟨j, hj, e⟩ := List.getElem_of_mem hl
            rw [hb j l (by omega) (by rw [List.getElem?_eq_getElem hj, e])]
            rfl
end

/-! ### k77: what is wrong of a block, as the law looks -/
theorem mulOk_sp8 : MulOk " " 8 := mulOk_sp (n := 8) (by omega)
section
variable {P : Program} {w : World} {K : PySem.W.Frag} {mg : Str → Option Value} {base : Heap}
/-- a block of rows, so many of them source -/
structure BlR (B : List (List Nat)) (m : Nat) : Prop where
  m1 : 1 ≤ m
  me : m ≤ B.length
  few : B.length ≤ 20
  row : ∀ l ∈ B, okc l = true ∧ l.length ≤ 60
def sp_law_fault : Sp := fun vs H Q _ => ∃ (p : Addr) (d m : Nat) (B : List (List Nat)), vs = [.ref p, .int (m : Int), .int (d : Int)] ∧ H p = some (.lst (strV B)) ∧ BlR B m ∧ d ≤ 60 ∧ ∀ (H' : Hp) (v : V), Same H H' → FltB H' v (badR B 0 m B.length d) → Q v H'
theorem ok_law_fault {f : Addr} {fd : FuncData} {dvs : List V} (F : Fn K "_law_fault" s_law_fault dvs f fd) (m_int : mg "int" = none) (m_len : mg "len" = none) (m_range : mg "range" = none) : FnOk P w K mg base CX0 1 f fd ["lines", "many", "indent"] (sp_law_fault) := by
  refine Fn.okN F sc_law_fault (fun vs H Q E h => ?_) (fun cdv A outer s H vs Q E hr h => ?_)
  · obtain ⟨_, _, _, _, rfl, _⟩ := h
    rfl
  · obtain ⟨p, d, m, B, rfl, hp, ho, hd4, k⟩ := h
    refine ⟨_, (pss_cons (ps_for PassesOwn.never rfl (pi_range1 rfl m_range (pa_cons (pv 1) pa_nil)) (pg_name (i := 3) sc_law_fault.nd rfl (.inl rfl))
          (pss_one (ps_if (pt_cmpR op_ne (pe_m1 PySem.F.slot_str_strip PySem.F.type_str_strip mt_stripChars (pe_slice sl_str (pe_ix ix_list (pv 0) (pv 3) (fun _ _ => rfl)) (po_some (pe_op op_add (pv 2) pe_int)) (po_some (pe_op op_add (pv 2) pe_int))) pe_str) pe_str (nomark _))
                (pss_one (ps_ret (pe_tup (pa_cons (pv 3) (pa_cons pe_str (pa_cons (pe_slice sl_str (pe_ix ix_list (pv 0) (pv 3) (fun _ _ => rfl)) (po_some (pv 2)) (po_some (pe_op op_add (pv 2) pe_int))) pa_nil))))))
                pss_nil)))
      (pss_cons (ps_for PassesOwn.never rfl (pi_range2 rfl m_range (pa_cons pe_int (pa_cons (pe_callB call_len_seq (by rfl) m_len PySem.boot_len (pa_cons (pv 0) pa_nil)) pa_nil))) (pg_name (i := 3) sc_law_fault.nd rfl (.inl rfl))
          (pss_cons (ps_set (i := 4) sc_law_fault.nd rfl (.inl rfl) (pe_op op_add_str (pe_op op_repS pe_str (pv 2)) (pe_op op_repS pe_str (pe_callTy call_int1 (by rfl) m_int (by decide +kernel) (pa_cons (pe_cmpR op_lt (pv 3) (pv 1) (nomark _)) pa_nil)))))
            (pss_one (ps_if (pt_cmpR op_ne (pe_slice sl_str (pe_ix ix_list (pv 0) (pv 3) (fun _ _ => rfl)) po_none (po_some (pe_callB call_len_str (by rfl) m_len PySem.boot_len (pa_cons (pv 4) pa_nil)))) (pv 4) (nomark _))
                (pss_one (ps_ret (pe_tup (pa_cons (pv 3) (pa_cons pe_str (pa_cons (pe_ix ix_list (pv 0) (pv 3) (fun _ _ => rfl)) pa_nil))))))
                pss_nil))))
      (pss_one (ps_ret pe_non)))), ?_⟩
    have hme := ho.me
    have hm1 := ho.m1
    have hfew := ho.few
    refine ⟨.int (m : Int), rfl, (m : Int), rfl, by omega, by omega, for_range (n := m) (fun j σ H2 => ∃ (v3 v4 : Option V), σ = [some (.ref p), some (.int (m : Int)), some (.int (d : Int)), v3, v4] ∧ Same H H2 ∧ ∀ k, 0 ≤ k → k < 0 + j → blOk d (B.getD k []) = true) ⟨_, _, rfl, (fun _ _ e => e), fun k h1 h2 => by omega⟩ ?_ ?_⟩
    · rintro j σ H2 hj ⟨v3, v4, rfl, s2, ok⟩
      rw [Int.zero_add]
      obtain ⟨l, hrow⟩ : ∃ l, B[j]? = some l := ⟨_, List.getElem?_eq_getElem (by omega)⟩
      have hro := ho.row l (List.mem_of_getElem? hrow)
      have zl : (mk l).length ≤ sizeLine := by rw [mk_len]; exact line_of (by omega)
      have hp2 := s2 _ _ hp
      have hat : atI (strV B) (j : Int) = some (.str (mk l)) := atI_nat (strV_get _ hrow)
      have e4 : (d : Int) + 4 = (d : Int) + 3 + 1 := by omega
      refine ⟨.ref p, rfl, .int (j : Int), rfl, p, _, _, .str (mk l), rfl, rfl, SqL.of hp2, hat, .int (d : Int), rfl, _, _, rfl, rfl, _, rfl, .int (d : Int), rfl, _, _, rfl, rfl, _, rfl, mk l, rfl, zl, ⟨_, rfl⟩, _, " ", rfl, rfl, ?_, rfl, _, rfl, ?_⟩
      · rw [e4, cut_len, mk_len, List.length_take]
        exact line_of (by omega)
      show ite ((!decide (V.str (Txt.stripChars (cutS (mk l) (some ((d : Int) + 3)) (some ((d : Int) + 4))) " ") = V.str "")) = true) _ _
      rw [e4, ← bl_strip hro.1]
      cases hb : blOk d l with
      | true =>
        refine iteF ⟨_, _, rfl, s2, fun k h1 h2 => ?_⟩
        by_cases hk : k = j
        · rw [hk, getD_at hrow]
          exact hb
        · exact ok k h1 (by omega)
      | false =>
        have hf := firstB_some (ok := blOk d) (ws := B) (a := 0) (n := m - 0) (i := j) ok (by omega) (by rw [Nat.zero_add, getD_at hrow]; exact hb)
        rw [Nat.zero_add] at hf
        refine iteT ⟨_, rfl, .ref p, rfl, .int (j : Int), rfl, p, _, _, .str (mk l), rfl, rfl, SqL.of hp2, hat, .int (d : Int), rfl, _, rfl, .int (d : Int), rfl, _, _, rfl, rfl, _, rfl, mk l, rfl, zl, by show 3 ≤ sizeLine; decide, fun T2 n2 => k _ _ (s2.trans (same_new n2)) ?_⟩
        unfold badR
        rw [hf]
        refine ⟨T2, rfl, ?_⟩
        rw [upd_same, getD_at hrow]
    · rintro σ H2 ⟨v3, v4, rfl, s2, ok⟩
      have f1 : firstB (blOk d) B 0 (m - 0) = none := firstB_none fun k h1 h2 => ok k h1 (by omega)
      have hp2 := s2 _ _ hp
      refine ⟨.ref p, rfl, p, _, rfl, .inl (SqL.of hp2), ?_⟩
      rw [strV_len]
      refine ⟨1, ((B.length : Nat) : Int), rfl, ⟨by decide, by decide, by omega, by omega⟩, for_range (lo := 1) (n := (((B.length : Nat) : Int) - 1).toNat) (fun i σ H3 => ∃ (v3 v4 : Option V), σ = [some (.ref p), some (.int (m : Int)), some (.int (d : Int)), v3, v4] ∧ Same H2 H3 ∧ ∀ k, 1 ≤ k → k < i + 1 → Txt.startswith (mk (B.getD k [])) (if k < m then Txt.mul " " (d : Int) ++ "." else Txt.mul " " (d : Int)) = true) ⟨_, _, rfl, (fun _ _ e => e), fun k h1 h2 => by omega⟩ ?_ ?_⟩
      · rintro i σ H3 hi ⟨v3, v4, rfl, s3, ok3⟩
        obtain ⟨j, hj⟩ : ∃ j, j = i + 1 := ⟨_, rfl⟩
        rw [show (1 : Int) + (i : Nat) = (j : Nat) by omega]
        obtain ⟨l, hrow⟩ : ∃ l, B[j]? = some l := ⟨_, List.getElem?_eq_getElem (by omega)⟩
        have hjr : j < B.length := by omega
        have hro := ho.row l (List.mem_of_getElem? hrow)
        have zl : (mk l).length ≤ sizeLine := by rw [mk_len]; exact line_of (by omega)
        have hp3 := s3 _ _ hp2
        have hat : atI (strV B) (j : Int) = some (.str (mk l)) := atI_nat (strV_get _ hrow)
        have hah : Txt.mul " " (d : Int) ++ Txt.mul "." (if decide ((j : Int) < (m : Int)) = true then 1 else 0) = (if j < m then Txt.mul " " (d : Int) ++ "." else Txt.mul " " (d : Int)) := by
          have e1 : ("." : Str) = mk [46] := ext_tl (by decide +kernel)
          by_cases hj : j < m
          · rw [decide_eq_true (by omega), if_pos rfl, if_pos hj, e1, mul_1]
          · rw [decide_eq_false (by omega), if_neg Bool.false_ne_true, if_neg hj, mul_0, mul_sps, app_mk, List.append_nil]
        obtain ⟨y, hy⟩ : ∃ y : List Nat, (if j < m then Txt.mul " " (d : Int) ++ "." else Txt.mul " " (d : Int)) = mk y ∧ y.length ≤ 100 := by
          have e1 : ("." : Str) = mk [46] := ext_tl (by decide +kernel)
          split
          · exact ⟨sps d ++ [46], by rw [mul_sps, e1, app_mk], by rw [List.length_append, sps_len]; show d + 1 ≤ 100; omega⟩
          · exact ⟨sps d, mul_sps d, by rw [sps_len]; omega⟩
        refine ⟨_, rfl, _, _, rfl, rfl, mulOk_sp (by omega), _, rfl, _, rfl, _, _, rfl, rfl, .inr ⟨_, rfl, _, _, rfl, rfl, mulOk01 (by cases decide ((j : Int) < (m : Int)) <;> simp), _, _, rfl, rfl, ?_, ?_⟩⟩
        · have := congrArg (fun z : Str => z.length) (hah.trans hy.1)
          rw [app_len, mk_len] at this
          exact line_of (by omega)
        rw [hah, hy.1]
        have zy : (mk y).length ≤ sizeLine := by rw [mk_len]; exact line_of (by omega)
        refine ⟨.ref p, rfl, .int (j : Int), rfl, p, _, _, .str (mk l), rfl, rfl, SqL.of hp3, hat, _, rfl, _, rfl, zy, _, rfl, mk l, rfl, zl, _, rfl, rfl, _, rfl, ?_⟩
        rw [take_pre]
        cases hst : Txt.startswith (mk l) (mk y) with
        | true =>
          refine iteF ⟨_, _, rfl, s3, fun k h1 h2 => ?_⟩
          by_cases hk : k = j
          · rw [hk, getD_at hrow, hy.1]
            exact hst
          · exact ok3 k h1 (by omega)
        | false =>
          refine iteT ⟨_, rfl, .ref p, rfl, .int (j : Int), rfl, p, _, _, .str (mk l), rfl, rfl, SqL.of hp3, hat, by show 3 ≤ sizeLine; decide, fun T2 n2 => k _ _ (s2.trans (s3.trans (same_new n2))) ?_⟩
          have hst2 : Txt.startswith (mk (B.getD j [])) (if j < m then Txt.mul " " (d : Int) ++ "." else Txt.mul " " (d : Int)) = false := by
            rw [getD_at hrow, hy.1]
            exact hst
          unfold badR
          rw [f1]
          dsimp only
          by_cases hj : j < m
          · have f2 := firstB_some (ok := fun l => Txt.startswith (mk l) (Txt.mul " " (d : Int) ++ ".")) (ws := B) (a := 0 + 1) (n := m - (0 + 1)) (i := j - 1) (fun k h1 h2 => by
              have := ok3 k (by omega) (by omega)
              rw [if_pos (by omega)] at this
              exact this) (by omega) (by
              rw [show 0 + 1 + (j - 1) = j by omega]
              rw [if_pos hj] at hst2
              exact hst2)
            rw [show 0 + 1 + (j - 1) = j by omega] at f2
            rw [f2]
            refine ⟨T2, rfl, ?_⟩
            rw [upd_same, getD_at hrow]
          · have f2 : firstB (fun l => Txt.startswith (mk l) (Txt.mul " " (d : Int) ++ ".")) B (0 + 1) (m - (0 + 1)) = none := firstB_none fun k h1 h2 => by
              have := ok3 k (by omega) (by omega)
              rw [if_pos (by omega)] at this
              exact this
            have f3 := firstB_some (ok := fun l => Txt.startswith (mk l) (Txt.mul " " (d : Int))) (ws := B) (a := m) (n := B.length - m) (i := j - m) (fun k h1 h2 => by
              have := ok3 k (by omega) (by omega)
              rw [if_neg (by omega)] at this
              exact this) (by omega) (by
              rw [show m + (j - m) = j by omega]
              rw [if_neg hj] at hst2
              exact hst2)
            rw [show m + (j - m) = j by omega] at f3
            rw [f2]
            dsimp only
            rw [f3]
            refine ⟨T2, rfl, ?_⟩
            rw [upd_same, getD_at hrow]
      · rintro σ H3 ⟨v3, v4, rfl, s3, ok3⟩
        refine k H3 .non (s2.trans s3) ?_
        have f2 : firstB (fun l => Txt.startswith (mk l) (Txt.mul " " (d : Int) ++ ".")) B (0 + 1) (m - (0 + 1)) = none := firstB_none fun k h1 h2 => by
          have := ok3 k (by omega) (by omega)
          rw [if_pos (by omega)] at this
          exact this
        have f3 : firstB (fun l => Txt.startswith (mk l) (Txt.mul " " (d : Int))) B m (B.length - m) = none := firstB_none fun k h1 h2 => by
          have := ok3 k (by omega) (by omega)
          rw [if_neg (by omega)] at this
          exact this
        unfold badR
        rw [f1]
        dsimp only
        rw [f2]
        dsimp only
        rw [f3]
        rfl
end

/-! ### the words of a directive, as the law looks -/
def lwRest (l : List Nat) (i : Nat) : Str := Txt.lstripChars (mk (l.drop (i + 1))) " "
/-- does a directive begin here -/
def lwHit (l : List Nat) (i : Nat) : Bool := decide (V.str ⟨#[l.getD i 0]⟩ = V.str "#") && (decide (V.str (cutS (lwRest l i) none (some (8 : Int))) = V.str "doctest:") && (!decide (39 ∈ tl (lwRest l i)) && !decide (34 ∈ tl (lwRest l i))))
def lwAt (l : List Nat) : Option Nat := (List.range l.length).find? (lwHit l)
def lwWords (l : List Nat) : List Str := match lwAt l with
  | some i => Txt.words (Txt.replace (cutS (lwRest l i) (some (8 : Int)) none) "," " ")
  | none => []
def lwBare (l : List Nat) : Str := match lwAt l with
  | some i => Txt.rstripChars (mk (l.take i)) " "
  | none => Txt.rstripChars (mk l) " "
theorem find_first {n i : Nat} {p : Nat → Bool} (h : i < n) (hp : p i = true) (nh : ∀ j, j < i → p j = false) : (List.range n).find? p = some i := by
  rw [List.find?_eq_some_iff_getElem]
  refine ⟨hp, i, by rw [List.length_range]; exact h, List.getElem_range _, fun j hj => ?_⟩
  rw [List.getElem_range, nh j hj]
  rfl
theorem find_none' {n : Nat} {p : Nat → Bool} (nh : ∀ j, j < n → p j = false) : (List.range n).find? p = none := by
  rw [List.find?_eq_none]
  intro j hj
  rw [nh j (List.mem_range.mp hj)]
  decide
section
variable {P : Program} {w : World} {K : PySem.W.Frag} {mg : Str → Option Value} {base : Heap}
def sp_law_option_words : Sp := fun vs H Q _ => ∃ (l : List Nat), vs = [.str (mk l)] ∧ okc l = true ∧ l.length ≤ 60 ∧
  ∀ (H' : Hp) (T p : Addr), Same H H' → H' p = some (.lst ((lwWords l).map V.str)) → H' T = some (.tup [.ref p, .str (lwBare l)]) → Q (.ref T) H'
theorem ok_law_option_words {f : Addr} {fd : FuncData} {dvs : List V} (F : Fn K "_law_option_words" s_law_option_words dvs f fd) (m_len : mg "len" = none) (m_range : mg "range" = none) : FnOk P w K mg base CX0 1 f fd ["line"] (sp_law_option_words) := by
  refine Fn.okN F sc_law_option_words (fun vs H Q E h => ?_) (fun cdv A outer s H vs Q E hr h => ?_)
  · obtain ⟨_, rfl, _⟩ := h
    rfl
  · obtain ⟨l, rfl, hl, hn, k⟩ := h
    refine ⟨_, (pss_cons (ps_for PassesOwn.never rfl (pi_range1 rfl m_range (pa_cons (pe_callB call_len_str (by rfl) m_len PySem.boot_len (pa_cons (pv 0) pa_nil)) pa_nil)) (pg_name (i := 1) sc_law_option_words.nd rfl (.inl rfl))
          (pss_cons (ps_set (i := 2) sc_law_option_words.nd rfl (.inl rfl) (pe_m1 PySem.F.slot_str_lstrip PySem.F.type_str_lstrip mt_lstripChars (pe_slice sl_str (pv 0) (po_some (pe_op op_add (pv 1) pe_int)) po_none) pe_str))
            (pss_one (ps_if (PW.pt (pw_and (pt_cmpR op_eq (pe_ix ix_str (pv 0) (pv 1) (fun _ _ => rfl)) pe_str (nomark _)) (pw_and (pt_cmpR op_eq (pe_slice sl_str (pv 2) po_none (po_some pe_int)) pe_str (nomark _)) (pw_and (pt_cmpR op_notIn_sign pe_str (pv 2) rfl) (pw_and1 (pt_cmpR op_notIn_sign pe_str (pv 2) rfl))))))
                (pss_one (ps_ret (pe_tup (pa_cons (pe_m0 PySem.F.slot_str_split PySem.F.type_str_split mt_words (pe_replK (ek_slF sl_str (pv 2)) (by decide +kernel))) (pa_cons (pe_m1 PySem.F.slot_str_rstrip PySem.F.type_str_rstrip mt_rstripChars (pe_slice sl_str (pv 0) po_none (po_some (pv 1))) pe_str) pa_nil)))))
                pss_nil))))
      (pss_one (ps_ret (pe_tup (pa_cons (pe_lst pa_nil) (pa_cons (pe_m1 PySem.F.slot_str_rstrip PySem.F.type_str_rstrip mt_rstripChars (pv 0) pe_str) pa_nil)))))), ?_⟩
    have zl : (mk l).length ≤ sizeLine := by rw [mk_len]; exact line_of (by omega)
    refine ⟨.str (mk l), rfl, _, rfl, zl, ?_⟩
    rw [mk_len]
    refine ⟨(l.length : Int), rfl, by omega, by omega, for_range (n := l.length) (fun i σ H2 => ∃ (v1 v2 : Option V), σ = [some (.str (mk l)), v1, v2] ∧ Same H H2 ∧ ∀ j, j < i → lwHit l j = false) ⟨_, _, rfl, (fun _ _ e => e), fun j h => absurd h (Nat.not_lt_zero _)⟩ ?_ ?_⟩
    · rintro i σ H2 hi ⟨v1, v2, rfl, s2, nh⟩
      rw [Int.zero_add]
      have ec : cutS (mk l) (some ((i : Int) + 1)) none = mk (l.drop (i + 1)) := by
        exact ext_tl (cutS_from (mk l) (i + 1))
      have lr : (lwRest l i).length ≤ 60 := by
        unfold lwRest
        refine Nat.le_trans (len_stripBy _ _ _ _) ?_
        rw [mk_len, List.length_drop]
        omega
      have hg : (tl (mk l))[i]? = some (l.getD i 0) := by
        rw [List.getD_eq_getElem?_getD]
        show l[i]? = _
        rw [List.getElem?_eq_getElem hi]
        rfl
      have zr : (lwRest l i).length ≤ sizeLine := line_of (by omega)
      refine ⟨.str (mk l), rfl, .int (i : Int), rfl, _, _, rfl, rfl, _, rfl, mk l, rfl, zl, ⟨_, rfl⟩, _, " ", rfl, rfl, ?_, ?_⟩
      · rw [ec, mk_len, List.length_drop]
        exact line_of (by omega)
      rw [ec]
      show _
      have miss : lwHit l i = false → (∃ v1 v2, [some (V.str (mk l)), some (V.int i), some (V.str (lwRest l i))] = [some (V.str (mk l)), v1, v2] ∧ Same H H2 ∧ ∀ j, j < i + 1 → lwHit l j = false) := fun h => ⟨_, _, rfl, s2, fun j hj => by
        by_cases e : j = i
        · rw [e]
          exact h
        · exact nh j (by omega)⟩
      have hh : lwHit l i = (decide (V.str ⟨#[l.getD i 0]⟩ = V.str "#") && (decide (V.str (cutS (lwRest l i) none (some (8 : Int))) = V.str "doctest:") && (!decide (39 ∈ tl (lwRest l i)) && !decide (34 ∈ tl (lwRest l i))))) := rfl
      refine ⟨.str (mk l), rfl, .int (i : Int), rfl, mk l, _, _, rfl, rfl, zl, atI_nat hg, rfl, _, rfl, ?_⟩
      generalize decide (V.str ⟨#[l.getD i 0]⟩ = V.str "#") = b1 at hh ⊢
      cases b1 with
      | false => exact iteF (iteF (miss hh))
      | true =>
      rw [Bool.true_and] at hh
      refine iteT ⟨_, rfl, _, rfl, lwRest l i, rfl, zr, rfl, _, rfl, ?_⟩
      generalize decide (V.str (cutS (lwRest l i) none (some (8 : Int))) = V.str "doctest:") = b2 at hh ⊢
      cases b2 with
      | false => exact iteF (iteF (miss hh))
      | true =>
      rw [Bool.true_and] at hh
      refine iteT ⟨_, rfl, 39, lwRest l i, by decide +kernel, rfl, _, rfl, ?_⟩
      have h3 : ∀ c, decide (c ∈ (lwRest l i).cps.toList) = decide (c ∈ tl (lwRest l i)) := fun _ => rfl
      rw [h3]
      generalize (!decide (39 ∈ tl (lwRest l i))) = b3 at hh ⊢
      cases b3 with
      | false => exact iteF (iteF (miss hh))
      | true =>
      rw [Bool.true_and] at hh
      refine iteT ⟨_, rfl, 34, lwRest l i, by decide +kernel, rfl, _, rfl, ?_⟩
      rw [h3]
      generalize (!decide (34 ∈ tl (lwRest l i))) = b4 at hh ⊢
      cases b4 with
      | false => exact iteF (miss hh)
      | true =>
      refine iteT ?_
      have hat : lwAt l = some i := find_first hi hh nh
      have kw : lwWords l = Txt.words (Txt.replace (cutS (lwRest l i) (some (8 : Int)) none) "," " ") := by
        unfold lwWords
        rw [hat]
      have kb : lwBare l = Txt.rstripChars (mk (l.take i)) " " := by
        unfold lwBare
        rw [hat]
      rw [kw, kb] at k
      have c8 := cut_sub (lwRest l i) (some (8 : Int)) none
      have e44 : ("," : Str) = ⟨[44].toArray⟩ := ext_tl (by decide +kernel)
      have lrp : (Txt.replace (cutS (lwRest l i) (some (8 : Int)) none) "," " ").length = (cutS (lwRest l i) (some (8 : Int)) none).length := by
        rw [len_tl, e44, sp_eq, replace_map (cutS (lwRest l i) (some (8 : Int)) none) 44 32, List.length_map, ← len_tl]
      have l1 : (" " : Str).length = 1 := rfl
      refine ⟨_, rfl, 8, rfl, lwRest l i, rfl, zr, _, rfl, by rw [l1]; omega, ⟨_, rfl⟩, _, rfl, rfl, ?_, fun p np => ?_⟩
      · rw [lrp]
        exact Nat.le_trans (show _ ≤ 100 by omega) (by decide)
      have sp := same_new (o := .lst ((Txt.words (Txt.replace (cutS (lwRest l i) (some (8 : Int)) none) "," " ")).map V.str)) np
      have ec2 : cutS (mk l) none (some (i : Int)) = mk (l.take i) := ext_tl (cutS_to (mk l) i)
      refine ⟨_, rfl, .int (i : Int), rfl, _, rfl, mk l, rfl, zl, ⟨_, rfl⟩, _, " ", rfl, rfl, ?_, ?_⟩
      · rw [ec2, mk_len, List.length_take]
        exact line_of (by omega)
      rw [ec2]
      refine ⟨by show 2 ≤ sizeLine; decide, fun T nT => ?_⟩
      have sT := same_new (o := .tup [.ref p, .str (Txt.rstripChars (mk (l.take i)) " ")]) nT
      exact k _ T p ((s2.trans sp).trans sT) (sT _ _ upd_same) upd_same
    · rintro σ H2 ⟨v1, v2, rfl, s2, nh⟩
      have hat : lwAt l = none := find_none' nh
      have kw : lwWords l = [] := by
        unfold lwWords
        rw [hat]
      have kb : lwBare l = Txt.rstripChars (mk l) " " := by
        unfold lwBare
        rw [hat]
      rw [kw, kb] at k
      refine ⟨by show 0 ≤ sizeLine; decide, fun p np => ?_⟩
      have sp := same_new (o := .lst []) np
      refine ⟨_, rfl, ⟨_, rfl⟩, _, " ", rfl, rfl, zl, by show 2 ≤ sizeLine; decide, fun T nT => ?_⟩
      have sT := same_new (o := .tup [.ref p, .str (Txt.rstripChars (mk l) " ")]) nT
      exact k _ T p ((s2.trans sp).trans sT) (sT _ _ upd_same) upd_same
end

/-! ### options: the program's dict, the law's list, sorted -/
def PrsOf (kvs : List (Key × V)) (ds : List (Str × Bool)) : Prop := kvs = ds.map fun d => (Sum.inr d.1, V.bl d.2)
theorem keyToks_inj (x y : Str × Bool) (h : PySem.W.keyToks (encP x) = PySem.W.keyToks (encP y)) : x = y := by
  obtain ⟨a, p⟩ := x
  obtain ⟨b, q⟩ := y
  unfold encP at h
  simp only [PySem.W.keyToks, PySem.W.keyToksAll, List.cons_append, List.nil_append, List.cons.injEq, Sum.inr.injEq, Sum.inl.injEq] at h
  have h1 : a = b := PySem.W.str_of_cps h.2.1
  have h2 : p = q := by
    have := h.2.2.2.1
    cases p <;> cases q <;> simp at this ⊢
  rw [h1, h2]
theorem srt_total : PySem.W.TotalLe (PySem.W.dataLe false encP) := PySem.W.sortLe_total _ _ _
theorem srt_anti {x y : Str × Bool} (h : PySem.W.dataLe false encP x y = true) (k : PySem.W.dataLe false encP y x = true) : x = y := by
  have h : (!(PyProof.Rows.listOrd PyProof.Rows.itemOrd).blt (PySem.W.keyToks (encP y)) (PySem.W.keyToks (encP x))) = true := h
  have k : (!(PyProof.Rows.listOrd PyProof.Rows.itemOrd).blt (PySem.W.keyToks (encP x)) (PySem.W.keyToks (encP y))) = true := k
  rw [Bool.not_eq_true'] at h k
  exact keyToks_inj _ _ ((PyProof.Rows.listOrd PyProof.Rows.itemOrd).total _ _ k h)
theorem srtP_perm {a b : List (Str × Bool)} (h : a.Perm b) : srtP a = srtP b := by
  unfold srtP
  refine PySem.W.sort_one srt_total _ _ (PySem.W.sort_pairwise srt_total _) (PySem.W.sort_pairwise srt_total _) fun c => ?_
  have hp : ((a.mergeSort (PySem.W.dataLe false encP)).filter (PySem.W.sameRank (PySem.W.dataLe false encP) c)).Perm ((b.mergeSort (PySem.W.dataLe false encP)).filter (PySem.W.sameRank (PySem.W.dataLe false encP) c)) := (((List.mergeSort_perm a _).trans h).trans (List.mergeSort_perm b _).symm).filter _
  have all : ∀ (l : List (Str × Bool)), ∀ x ∈ l.filter (PySem.W.sameRank (PySem.W.dataLe false encP) c), x = c := fun l x hx => by
    have := (List.mem_filter.mp hx).2
    unfold PySem.W.sameRank at this
    rw [Bool.and_eq_true] at this
    exact srt_anti this.2 this.1
  have r1 := List.eq_replicate_iff.mpr ⟨rfl, all (a.mergeSort (PySem.W.dataLe false encP))⟩
  have r2 := List.eq_replicate_iff.mpr ⟨rfl, all (b.mergeSort (PySem.W.dataLe false encP))⟩
  rw [r1, r2, hp.length_eq]
/-- a word's flag and truth -/
def wKey (w : Str) : Str := cutS w (some 1) none
def wVal (w : Str) : Bool := decide (V.str (cutS w none (some 1)) = V.str "+")
def putD (ds : List (Str × Bool)) (w : Str) : List (Str × Bool) := if (ds.any fun d => decide (d.1 = wKey w)) = true then ds.map fun d => if d.1 = wKey w then (d.1, wVal w) else d else ds ++ [(wKey w, wVal w)]
def addD (ds : List (Str × Bool)) (w : Str) : List (Str × Bool) := (ds.filter fun d => decide (d.1 ≠ wKey w)) ++ [(wKey w, wVal w)]
theorem put_enc (ds : List (Str × Bool)) (w : Str) : PrsOf (putO (ds.map fun d => (Sum.inr d.1, V.bl d.2)) w) (putD ds w) := by
  unfold PrsOf putO putK putD
  have e : ((ds.map fun d => ((Sum.inr d.1 : Key), V.bl d.2)).any fun kv => decide (kv.1 = (Sum.inr (cutS w (some 1) none) : Key))) = ds.any fun d => decide (d.1 = wKey w) := by
    rw [List.any_map]
    congr 1
    funext d
    show decide ((Sum.inr d.1 : Key) = Sum.inr _) = _
    rw [decide_eq_decide]
    exact ⟨fun h => Sum.inr.inj h, fun h => congrArg Sum.inr h⟩
  rw [e]
  split
  · rw [List.map_map, List.map_map]
    refine List.map_congr_left fun d _ => ?_
    show (if (Sum.inr d.1 : Key) = Sum.inr (cutS w (some 1) none) then _ else _) = _
    by_cases h : d.1 = wKey w
    · rw [if_pos (show (Sum.inr d.1 : Key) = Sum.inr (cutS w (some 1) none) from congrArg Sum.inr h)]
      show _ = (Sum.inr (if d.1 = wKey w then (d.1, wVal w) else d).1, V.bl (if d.1 = wKey w then (d.1, wVal w) else d).2)
      rw [if_pos h]
      rfl
    · rw [if_neg (show ¬ (Sum.inr d.1 : Key) = Sum.inr (cutS w (some 1) none) from fun z => h (Sum.inr.inj z))]
      show _ = (Sum.inr (if d.1 = wKey w then (d.1, wVal w) else d).1, V.bl (if d.1 = wKey w then (d.1, wVal w) else d).2)
      rw [if_neg h]
  · rw [List.map_append]
    rfl
theorem fold_enc : ∀ (ws : List Str) (ds : List (Str × Bool)), PrsOf (ws.foldl putO (ds.map fun d => (Sum.inr d.1, V.bl d.2))) (ws.foldl putD ds)
  | [], _ => rfl
  | w :: r, ds => by
    show PrsOf (r.foldl putO (putO _ w)) (r.foldl putD (putD ds w))
    rw [show putO _ w = _ from put_enc ds w]
    exact fold_enc r _
/-- the flags of a list are all there once -/
def Uq (ds : List (Str × Bool)) : Prop := (ds.map (·.1)).Nodup
theorem put_perm : ∀ {a : List (Str × Bool)} (w : Str), Uq a → (putD a w).Perm (addD a w)
  | [], w, _ => List.Perm.refl _
  | d :: r, w, h => by
    have hu := List.nodup_cons.mp (show ((d.1) :: r.map (·.1)).Nodup from h)
    have ih := put_perm (a := r) w hu.2
    by_cases e : d.1 = wKey w
    · have no : ∀ x ∈ r, x.1 ≠ wKey w := fun x hx z => hu.1 (by rw [e, ← z]; exact List.mem_map.mpr ⟨x, hx, rfl⟩)
      have e1 : putD (d :: r) w = (d.1, wVal w) :: r := by
        unfold putD
        rw [if_pos (by rw [List.any_cons, decide_eq_true e, Bool.true_or]), List.map_cons, if_pos e]
        congr 1
        refine (List.map_congr_left fun x hx => ?_).trans (List.map_id _)
        rw [if_neg (no x hx)]
        rfl
      have e2 : addD (d :: r) w = r ++ [(wKey w, wVal w)] := by
        unfold addD
        rw [List.filter_cons_of_neg (by rw [decide_eq_true_eq]; exact fun z => z e), List.filter_eq_self.mpr fun x hx => decide_eq_true (no x hx)]
      rw [e1, e2, e]
      exact (List.perm_append_singleton _ _).symm
    · have e1 : putD (d :: r) w = d :: putD r w := by
        unfold putD
        rw [List.any_cons, decide_eq_false e, Bool.false_or]
        split
        · rw [List.map_cons, if_neg e]
        · rfl
      have e2 : addD (d :: r) w = d :: addD r w := by
        unfold addD
        rw [List.filter_cons_of_pos (p := fun d : Str × Bool => decide (d.1 ≠ wKey w)) (decide_eq_true e)]
        rfl
      rw [e1, e2]
      exact ih.cons _
theorem add_uq {a : List (Str × Bool)} (w : Str) (h : Uq a) : Uq (addD a w) := by
  unfold Uq addD
  rw [List.map_append]
  refine List.nodup_append.mpr ⟨?_, by simp, ?_⟩
  · exact (List.filter_sublist.map _).nodup h
  · intro x hx y hy z
    obtain ⟨d, hd, rfl⟩ := List.mem_map.mp hx
    have := (List.mem_filter.mp hd).2
    rw [decide_eq_true_eq] at this
    rw [List.map_cons, List.map_nil, List.mem_singleton] at hy
    exact this (z.trans hy)
theorem add_perm {a b : List (Str × Bool)} (w : Str) (h : a.Perm b) : (addD a w).Perm (addD b w) := (h.filter _).append_right _
theorem fold_perm : ∀ (ws : List Str) {a b : List (Str × Bool)}, Uq a → a.Perm b → (ws.foldl putD a).Perm (ws.foldl addD b)
  | [], _, _, _, h => h
  | w :: r, a, b, u, h => by
    have h1 := (put_perm w u).trans (add_perm w h)
    refine fold_perm r ?_ h1
    have h2 := add_uq w u
    exact ((put_perm w u).map _).nodup_iff.mpr h2
theorem add_len (a : List (Str × Bool)) (w : Str) : (addD a w).length ≤ a.length + 1 := by
  unfold addD
  rw [List.length_append]
  exact Nat.succ_le_succ (List.length_filter_le _ _)
section
variable {P : Program} {w : World} {K : PySem.W.Frag} {mg : Str → Option Value} {base : Heap}
def FLS : List Str := ["DONT_ACCEPT_TRUE_FOR_1", "DONT_ACCEPT_BLANKLINE", "NORMALIZE_WHITESPACE", "ELLIPSIS", "SKIP", "FAIL_FAST", "IGNORE_EXCEPTION_DETAIL", "REPORT_ONLY_FIRST_FAILURE"]
def sp_law_flags : Sp := fun vs H Q _ => vs = [] ∧ ∀ (H' : Hp) (p : Addr), Same H H' → H p = none → H' p = some (.lst (FLS.map V.str)) → Q (.ref p) H'
theorem ok_law_flags {f : Addr} {fd : FuncData} {dvs : List V} (F : Fn K "_law_flags" s_law_flags dvs f fd) : FnOk P w K mg base CX0 1 f fd [] (sp_law_flags) := by
  refine Fn.okN F sc_law_flags (fun vs H Q E h => ?_) (fun cdv A outer s H vs Q E hr h => ?_)
  · obtain ⟨rfl, _⟩ := h
    rfl
  · obtain ⟨rfl, k⟩ := h
    refine ⟨_, (pss_cons (ps_set (i := 0) sc_law_flags.nd rfl (.inl rfl) (pe_lst (pa_cons pe_str (pa_cons pe_str (pa_cons pe_str (pa_cons pe_str (pa_cons pe_str (pa_cons pe_str pa_nil))))))))
      (pss_one (ps_ret (pe_op op_cat (pv 0) (pe_lst (pa_cons pe_str (pa_cons pe_str pa_nil))))))), ?_⟩
    refine ⟨by show 6 ≤ sizeLine; decide, fun A nA => ⟨_, rfl, by show 2 ≤ sizeLine; decide, fun B nB => ?_⟩⟩
    have sA := same_new (o := .lst [V.str "DONT_ACCEPT_TRUE_FOR_1", V.str "DONT_ACCEPT_BLANKLINE", V.str "NORMALIZE_WHITESPACE", V.str "ELLIPSIS", V.str "SKIP", V.str "FAIL_FAST"]) nA
    have sB := same_new (o := .lst [V.str "IGNORE_EXCEPTION_DETAIL", V.str "REPORT_ONLY_FIRST_FAILURE"]) nB
    refine ⟨A, B, _, _, rfl, rfl, sB _ _ upd_same, upd_same, by show 8 ≤ sizeLine; decide, fun C nC => ?_⟩
    exact k _ C ((sA.trans sB).trans (same_new nC)) ((sA.trans sB).free nC) upd_same
def sp_law_shown (CE CC : Addr) : Sp := fun vs H Q _ => ∃ v : V, vs = [v] ∧
  ((∃ x : Str, v = .str x ∧ ∀ (H' : Hp) (T : Addr), Same H H' → H T = none → H' T = some (.tup [.str "text", .str x]) → Q (.ref T) H') ∨
   (∃ (q dx : Addr) (fs : List (Str × V)) (src wt : Str) (n i : Int), v = .ref q ∧ H q = some (.ins CC dx fs) ∧ CoF fs src wt n i ∧ ∀ (H' : Hp) (T : Addr), Same H H' → H T = none → H' T = some (.tup [.str "comment", .str src, .str wt, .int n, .int i]) → Q (.ref T) H') ∨
   (∃ (q dx : Addr) (fs : List (Str × V)) (src wt br : Str) (er : V) (n i : Int) (ds : List (Str × Bool)) (kv : List (Key × V)), v = .ref q ∧ H q = some (.ins CE dx fs) ∧ PrsOf kv ds ∧ ds.length ≤ 1000 ∧ ExF H fs src wt er n i br kv ∧ ∀ (H' : Hp) (T L : Addr) (ys : List V), Same H H' → H T = none → H L = none → H' L = some (.lst ys) → Paired (PrAt H') ys (srtP ds) → H' T = some (.tup [.str "example", .str src, .str wt, .int n, .int i, er, .ref L, .str br]) → Q (.ref T) H'))
theorem pr_upd {H : Hp} {p : Addr} {o : HO} (n : H p = none) {ys : List V} {ds : List (Str × Bool)} (h : Paired (PrAt H) ys ds) : Paired (PrAt (upd H p o)) ys ds := paired_imp (fun x y ⟨t, e, et⟩ => ⟨t, e, same_new n _ _ et⟩) h
theorem pr_same {H H' : Hp} (s : Same H H') {ys : List V} {ds : List (Str × Bool)} (h : Paired (PrAt H) ys ds) : Paired (PrAt H') ys ds := paired_imp (fun x y ⟨t, e, et⟩ => ⟨t, e, s _ _ et⟩) h
theorem prs_at {H : Hp} : ∀ {ts : List Addr} {kv : List (Key × V)} {ds : List (Str × Bool)}, PrsOf kv ds → Paired (fun t q => H t = some (.tup [kV q.1, q.2])) ts kv → Paired (PrAt H) (ts.map V.ref) ds
  | _, _, [], e, h => by
    have e : _ = [] := e
    subst e
    cases h
    exact .nil
  | _, _, d :: r, e, h => by
    have e : _ = (Sum.inr d.1, V.bl d.2) :: r.map (fun d => ((Sum.inr d.1 : Key), V.bl d.2)) := e
    subst e
    cases h with
    | cons a t => exact .cons ⟨_, rfl, a⟩ (prs_at rfl t)
theorem ok_law_shown {f : Addr} {fd : FuncData} {dvs : List V} (F : Fn K "_law_shown" s_law_shown dvs f fd) {C_Example : Addr} (T_Example : Txt_Example K mg C_Example) {C_Comment : Addr} (T_Comment : Txt_Comment K mg C_Comment) (m_isinstance : mg "isinstance" = none) (m_list : mg "list" = none) (m_sorted : mg "sorted" = none) (m_str : mg "str" = none) (z_EC : PySem.W.subIn K (.ref C_Example) (.ref C_Comment) = some false) (z_EE : PySem.W.subIn K (.ref C_Example) (.ref C_Example) = some true) (z_iC : PySem.W.isClsIn K C_Comment = true) (z_tC : PySem.W.typeIn K (.ref C_Comment) = some (.type "type")) (z_Es : PySem.W.subIn K (.ref C_Example) (.type "str") = some false) (z_Cs : PySem.W.subIn K (.ref C_Comment) (.type "str") = some false) : FnOk P w K mg base CX0 1 f fd ["piece"] (sp_law_shown C_Example C_Comment) := by
  refine Fn.okN F sc_law_shown (fun vs H Q E h => ?_) (fun cdv A outer s H vs Q E hr h => ?_)
  · obtain ⟨_, rfl, _⟩ := h
    rfl
  · obtain ⟨v, rfl, hv⟩ := h
    refine ⟨_, (pss_cons (ps_if (pt_val (pe_callB call_isi (by rfl) m_isinstance (by decide +kernel) (pa_cons (pv 0) (pa_cons (pe_bltn (v := .ty "str") (by rfl) m_str (by decide +kernel) rfl) pa_nil))))
          (pss_one (ps_ret (pe_tup (pa_cons pe_str (pa_cons (pv 0) pa_nil)))))
          pss_nil)
      (pss_cons (ps_if (pt_val (pe_callB (call_isiK (K' := K) rfl) (by rfl) m_isinstance (by decide +kernel) (pa_cons (pv 0) (pa_cons (pe_glob (v := .ref C_Comment) rfl T_Comment.mgC rfl) pa_nil))))
          (pss_one (ps_ret (pe_tup (pa_cons pe_str (pa_cons (pe_fldK (K' := K) rfl (pv 0) rfl) (pa_cons (pe_fldK (K' := K) rfl (pv 0) rfl) (pa_cons (pe_fldK (K' := K) rfl (pv 0) rfl) (pa_cons (pe_fldK (K' := K) rfl (pv 0) rfl) pa_nil))))))))
          pss_nil)
      (pss_cons (ps_set (i := 1) sc_law_shown.nd rfl (.inl rfl) (pe_tup (pa_cons (pe_fldK (K' := K) rfl (pv 0) rfl) (pa_cons (pe_callB (cr_sortedP hr.units) (by rfl) m_sorted (by decide +kernel) (pa_cons (LiI.pe_listItems rfl (pe_fldK (K' := K) rfl (pv 0) rfl) (by rfl) m_list (by decide +kernel)) pa_nil)) (pa_cons (pe_fldK (K' := K) rfl (pv 0) rfl) pa_nil)))))
      (pss_one (ps_ret (pe_op op_catT (pe_tup (pa_cons pe_str (pa_cons (pe_fldK (K' := K) rfl (pv 0) rfl) (pa_cons (pe_fldK (K' := K) rfl (pv 0) rfl) (pa_cons (pe_fldK (K' := K) rfl (pv 0) rfl) (pa_cons (pe_fldK (K' := K) rfl (pv 0) rfl) pa_nil)))))) (pv 1))))))), ?_⟩
    rcases hv with ⟨x, rfl, k⟩ | ⟨q, dx, fs, src, wt, n, i, rfl, eq, cf, k⟩ | ⟨q, dx, fs, src, wt, br, er, n, i, ds, kv, rfl, eq, hds, hdl, ef, k⟩
    · refine ⟨.str x, rfl, .str x, _, _, _, true, rfl, .ty "str", .base (.str x), kit_ty (by decide +kernel), true, rfl, iteT ⟨.str x, rfl, by show 2 ≤ sizeLine; decide, fun T nT => ?_⟩⟩
      exact k _ T (same_new nT) nT upd_same
    · refine ⟨.ref q, rfl, .ref q, _, _, _, false, rfl, .ty "str", .base (.ins eq T_Comment.cl T_Comment.ha T_Comment.hn T_Comment.ht T_Comment.hm), kit_tyno (by decide +kernel) z_Cs, false, rfl, iteF ?_⟩
      refine ⟨.ref q, rfl, .ref q, _, _, _, true, rfl, .own C_Comment, .base (.ins eq T_Comment.cl T_Comment.ha T_Comment.hn T_Comment.ht T_Comment.hm), T_Comment.ko, true, rfl, iteT ?_⟩
      refine ⟨.ref q, rfl, q, C_Comment, dx, fs, _, rfl, eq, T_Comment.cl, T_Comment.n_source, cf.source, .ref q, rfl, q, C_Comment, dx, fs, _, rfl, eq, T_Comment.cl, T_Comment.n_want, cf.want, .ref q, rfl, q, C_Comment, dx, fs, _, rfl, eq, T_Comment.cl, T_Comment.n_line, cf.line, .ref q, rfl, q, C_Comment, dx, fs, _, rfl, eq, T_Comment.cl, T_Comment.n_indent, cf.indent, by show 5 ≤ sizeLine; decide, fun T nT => ?_⟩
      exact k _ T (same_new nT) nT upd_same
    · have nEC : Value.ref C_Example ≠ .ref C_Comment := fun z => by
        rw [← z, z_EE] at z_EC
        cases z_EC
      refine ⟨.ref q, rfl, .ref q, _, _, _, false, rfl, .ty "str", .base (.ins eq T_Example.cl T_Example.ha T_Example.hn T_Example.ht T_Example.hm), kit_tyno (by decide +kernel) z_Es, false, rfl, iteF ?_⟩
      refine ⟨.ref q, rfl, .ref q, _, _, _, false, rfl, .own C_Comment, .base (.ins eq T_Example.cl T_Example.ha T_Example.hn T_Example.ht T_Example.hm), kit_no z_iC z_tC z_EC nEC, false, rfl, iteF ?_⟩
      obtain ⟨o, o1, o2⟩ := ef.options
      refine ⟨.ref q, rfl, q, C_Example, dx, fs, _, rfl, eq, T_Example.cl, T_Example.n_error, ef.error, .ref q, rfl, q, C_Example, dx, fs, _, rfl, eq, T_Example.cl, T_Example.n_options, o1, o, kv, rfl, o2, fun H1 p ts s1 np _ _ ep hpair => ?_⟩
      refine ⟨p, ts.map V.ref, ds, rfl, SqL.of ep, prs_at hds hpair, fun ys L hys nL => ?_⟩
      have nLH : H L = none := (fun {b : Addr} (n : H1 b = none) => Same.free s1 n) nL
      have sL := same_new (o := .lst ys) nL
      have s2 : Same H (upd H1 L (.lst ys)) := fun b o e => sL _ _ (s1 _ _ e)
      have hys := pr_same sL hys
      have eL : (upd H1 L (.lst ys)) L = some (.lst ys) := upd_same
      generalize upd H1 L (.lst ys) = H2 at s2 eL hys ⊢
      have eq2 := s2 _ _ eq
      refine ⟨.ref q, rfl, q, C_Example, dx, fs, _, rfl, eq2, T_Example.cl, T_Example.n_bare, ef.bare, by show 3 ≤ sizeLine; decide, fun R nR => ?_⟩
      have sR := same_new (o := .tup [er, .ref L, .str br]) nR
      have eR : (upd H2 R (.tup [er, .ref L, .str br])) R = some (.tup [er, .ref L, .str br]) := upd_same
      have eq3 := sR _ _ eq2
      have eL3 := sR _ _ eL
      have s3 := s2.trans sR
      have hys3 := pr_same sR hys
      generalize upd H2 R (.tup [er, .ref L, .str br]) = H3 at sR eR eq3 eL3 s3 hys3 ⊢
      refine ⟨.ref q, rfl, q, C_Example, dx, fs, _, rfl, eq3, T_Example.cl, T_Example.n_source, ef.source, .ref q, rfl, q, C_Example, dx, fs, _, rfl, eq3, T_Example.cl, T_Example.n_want, ef.want, .ref q, rfl, q, C_Example, dx, fs, _, rfl, eq3, T_Example.cl, T_Example.n_line, ef.line, .ref q, rfl, q, C_Example, dx, fs, _, rfl, eq3, T_Example.cl, T_Example.n_indent, ef.indent, by show 5 ≤ sizeLine; decide, fun U nU => ?_⟩
      have sU := same_new (o := .tup [.str "example", .str src, .str wt, .int n, .int i]) nU
      refine ⟨.ref R, rfl, U, R, _, _, rfl, rfl, SqT.of upd_same, SqT.of (sU _ _ eR), by simp, by show 8 ≤ sizeLine; decide, fun z => (by cases z), fun _ T nT => ?_⟩
      have sT := same_new (o := .tup ([.str "example", .str src, .str wt, .int n, .int i] ++ [er, .ref L, .str br])) nT
      exact k _ T L ys ((s3.trans sU).trans sT) ((s3.trans sU).free nT) nLH (sT _ _ (sU _ _ eL3)) (pr_same sT (pr_same sU hys3)) upd_same
end

/-! ### one example, as the law reads it -/
inductive PD where
  | txt (x : Str)
  | com (src wt : Str) (n i : Int)
  | ex (src wt : Str) (n i : Int) (er : V) (sd : List (Str × Bool)) (br : Str)
/-- a piece as data, at an address -/
def PdAt (H : Hp) (T : Addr) : PD → Prop
  | .txt x => H T = some (.tup [.str "text", .str x])
  | .com src wt n i => H T = some (.tup [.str "comment", .str src, .str wt, .int n, .int i])
  | .ex src wt n i er sd br => ∃ (L : Addr) (ys : List V), H T = some (.tup [.str "example", .str src, .str wt, .int n, .int i, er, .ref L, .str br]) ∧ H L = some (.lst ys) ∧ Paired (PrAt H) ys sd
theorem PdAt.same {H H' : Hp} {T : Addr} (s : Same H H') : ∀ {p : PD}, PdAt H T p → PdAt H' T p
  | .txt _, h => s _ _ h
  | .com .., h => s _ _ h
  | .ex .., ⟨L, ys, h1, h2, h3⟩ => ⟨L, ys, s _ _ h1, s _ _ h2, pr_same s h3⟩
theorem lc_fm {K : PySem.W.Frag} {a D : Addr} {B : List (List Nat)} {g : TG} {tt : TT} {te : TE} {vs : List Nat} {σ : L2.St} {H1 : Hp} {Qd : Hp → Prop} (f : List Nat → Option (List Nat)) (nD : H1 D = none) (hB : B.length ≤ 1000) (ea : H1 a = some (.lst (strV B)))
    (hs : ∀ (i : Nat) (l : List Nat) (H2 : Hp) (R : VK) (Z : Hp → Prop), B[i]? = some l → Same H1 H2 → (∀ y, f l = some y → R (.str (mk y)) H2) → (f l = none → Z H2) → g (.str (mk l)) (wipe σ vs) H2 fun σ2 H3 => wipe σ2 vs = wipe σ vs ∧ tt σ2 H3 fun b H4 => if b = true then te σ2 H4 R else Z H4)
    (hd : ∀ H2, Same H1 H2 → H2 D = some (.lst (strV (B.filterMap f))) → Qd H2) :
    ∃ W : Nat → Nat → Hp → Prop, (∃ m, W 0 m (upd H1 D (.lst []))) ∧ ∀ i m H, W i m H →
      ((Itl K a).stop i H ∧ Qd H) ∨ ((Itl K a).go i H ∧ ∃ Nx : Hp → Prop, (∀ H', Nx H' → ∃ m', m' < m ∧ W (i + 1) m' H') ∧ ∀ x H', (Itl K a).yld i H x H' → g x (wipe σ vs) H' fun σ2 H2 => wipe σ2 vs = wipe σ vs ∧ tt σ2 H2 fun b H3 =>
        if b = true then te σ2 H3 fun y H4 => ∃ acc, H4 D = some (.lst acc) ∧ acc.length < sizeLine ∧ Nx (upd H4 D (.lst (acc ++ [y]))) else Nx H3) := by
  refine lc_list (K := K) (a := a) (xs := strV B) (fun i H2 => H2 D = some (.lst (strV ((B.take i).filterMap f))) ∧ Same H1 H2) ⟨upd_same, same_new nD⟩ (fun i H2 _ h => SqL.of (h.2 _ _ ea)) ?_ ?_
  · rintro i v H2 hv ⟨eD, s2⟩
    obtain ⟨l, hl, rfl⟩ := strV_at hv
    have hi : i < B.length := (List.getElem?_eq_some_iff.mp hl).1
    have ht : (B.take (i + 1)).filterMap f = (B.take i).filterMap f ++ (f l).toList := by
      rw [List.take_add_one, hl, List.filterMap_append]
      rfl
    refine hs i l H2 _ _ hl s2 (fun y hy => ?_) fun hn => ?_
    · refine ⟨_, eD, ?_, ?_, fun b o e => ?_⟩
      · rw [strV_len]
        have := List.length_filterMap_le f (B.take i)
        rw [List.length_take] at this
        exact Nat.lt_of_le_of_lt (show _ ≤ 1000 by omega) (by decide)
      · rw [upd_same, ht, hy]
        exact congrArg (fun z => some (HO.lst z)) (strV_app _ [y])
      · rw [upd_ne (ne_of_none e nD)]
        exact s2 b o e
    · rw [ht, hn]
      show H2 D = some (.lst (strV (_ ++ []))) ∧ _
      rw [List.append_nil]
      exact ⟨eD, s2⟩
  · rintro H2 ⟨eD, s2⟩
    rw [strV_len, List.take_length] at eD
    exact hd H2 s2 eD
/-- a row whose words and rest the law sees as the program does -/
structure RowOk (r : List Nat) : Prop where
  ok : okc r = true
  le : r.length ≤ 60
  wd : lwWords r = dwL r
  br : tl (lwBare r) = bareS r
def rdSl (B : List (List Nat)) (m n : Nat) : List (List Nat) := (B.take m).map (·.drop n)
def rdWl (B : List (List Nat)) (m n : Nat) : List (List Nat) := (B.drop m).map (·.drop n)
def knW (ws : List Str) : List (Str × Bool) := ws.foldl addD []
def rdOne (B : List (List Nat)) (m : Nat) (num : Nat) (n : Nat) : (Int × Str × Str) ⊕ PD := match badR B 0 m B.length n with
  | some f => .inl ((num : Int) + f.1, f.2.1, f.2.2)
  | none => match badP (rdSl B m (n + 4)) with
    | some rf => .inl ((num : Int), rf.1, rf.2)
    | none => .inr (if (rdSl B m (n + 4)).all remL = true then .com (rowsT (rdSl B m (n + 4))) (rowsT (rdWl B m n)) num n
      else .ex (rowsT (rdSl B m (n + 4))) (rowsT (rdWl B m n)) num n (optV (errL (rdWl B m n))) (srtP (knW (wordsAll (rdSl B m (n + 4))))) (bareT (rdSl B m (n + 4)) []))
/-- the heap without a place -/
def offH (F : Addr) (H : Hp) : Hp := fun b => if b = F then none else H b
theorem offH_at {F b : Addr} {H : Hp} (n : b ≠ F) : offH F H b = H b := if_neg n
theorem offH_same (F : Addr) (H : Hp) : Same (offH F H) H := fun b o e => by
  unfold offH at e
  split at e
  · cases e
  · exact e
theorem pr_cut {H : Hp} {F : Addr} {xs : List V} (hF : H F = some (.lst xs)) {ys : List V} {ds : List (Str × Bool)} (h : Paired (PrAt H) ys ds) : Paired (PrAt (offH F H)) ys ds := paired_imp (fun x y ⟨t, e, et⟩ => ⟨t, e, by
  rw [offH_at fun z => by rw [z, hF] at et; cases et]
  exact et⟩) h
theorem fin_cut {H H8 : Hp} {F T2 : Addr} {xs : List V} (hF : H F = some (.lst xs)) (o : HO) (s : Same H H8) (n : H8 T2 = none) : offH F (L2.upd H8 T2 o) T2 = some o := by
  rw [offH_at (ne_of_none (s _ _ hF) n).symm]
  exact upd_same
def OneAt (H : Hp) (T : Addr) : (Int × Str × Str) ⊕ PD → Prop
  | .inl f => H T = some (.tup [.int f.1, .str f.2.1, .str f.2.2])
  | .inr p => PdAt H T p
theorem has_mem {x : Str} {l : List Str} : has x l = true ↔ x ∈ l := by
  unfold has
  rw [List.any_eq_true]
  exact ⟨fun ⟨y, hy, e⟩ => by rw [beq_iff_eq] at e; rw [← e]; exact hy, fun h => ⟨x, h, by rw [beq_iff_eq]⟩⟩
theorem fls_has (x : Str) : has x FLS = has x v_FLAGS := by
  have h1 : ∀ y ∈ FLS, y ∈ v_FLAGS := by decide +kernel
  have h2 : ∀ y ∈ v_FLAGS, y ∈ FLS := by decide +kernel
  rw [Bool.eq_iff_iff, has_mem, has_mem]
  exact ⟨h1 x, h2 x⟩
theorem cutF (l : List Nat) (a : Nat) : cutS (mk l) (some ((a : Nat) : Int)) none = mk (l.drop a) := ext_tl (cutS_from (mk l) a)
theorem bare_snoc (ls : List (List Nat)) (r : List Nat) (h : tl (lwBare r) = bareS r) : bareT ls [] ++ lwBare r ++ "\n" = bareT (ls ++ [r]) [] := by
  have e1 : lwBare r = mk (bareS r) := ext_tl h
  have e0 : ∀ x : List (List Nat), bareT x [] = mk (joinL [] (x.map fun l => bareS l ++ [10])) := fun x => by
    unfold bareT rowsOf
    show mk (joinL [] ((x ++ []).map _)) = _
    rw [List.append_nil]
  rw [nl10, e1, e0, e0, app_mk, app_mk, List.map_append, List.append_assoc]
  congr 1
  generalize ls.map (fun l => bareS l ++ [10]) = x
  induction x with
  | nil =>
    show [] ++ (bareS r ++ [10]) = joinL [] [bareS r ++ [10]]
    rfl
  | cons a x ih =>
    rw [List.cons_append, joinL_flat, joinL_flat, List.append_assoc, ih]
theorem knW_snoc (ws : List Str) (w : Str) : knW (ws ++ [w]) = addD (knW ws) w := by
  unfold knW
  rw [List.foldl_append]
  rfl
theorem bareT_len {ls : List (List Nat)} (h : ∀ l ∈ ls, l.length ≤ 60) : (bareT ls []).length ≤ ls.length * 61 := by
  have e0 : bareT ls [] = mk (joinL [] (ls.map fun l => bareS l ++ [10])) := by
    unfold bareT rowsOf
    show mk (joinL [] ((ls ++ []).map _)) = _
    rw [List.append_nil]
  rw [e0, mk_len, joinL_sum]
  have := sum_le_of (b := 61) (ls := ls.map fun l => bareS l ++ [10]) fun l hl => by
    obtain ⟨x, hx, rfl⟩ := List.mem_map.mp hl
    have h1 := bareS_len x
    have h2 := h x hx
    rw [List.length_append]
    show (bareS x).length + 1 ≤ 61
    omega
  rw [List.length_map] at this
  exact this
theorem knW_len (ws : List Str) : (knW ws).length ≤ ws.length := by
  have key : ∀ (ws : List Str) (a : List (Str × Bool)), (ws.foldl addD a).length ≤ a.length + ws.length := fun ws => by
    induction ws with
    | nil => exact fun a => Nat.le_refl _
    | cons w r ih =>
      intro a
      have h1 := ih (addD a w)
      have h2 := add_len a w
      show (r.foldl addD (addD a w)).length ≤ _
      rw [List.length_cons]
      omega
  have := key ws []
  show (ws.foldl addD []).length ≤ _
  rw [List.length_nil] at this
  omega
theorem badW_at {A B : List Str} {w : Str} {SL : List (List Nat)} (e : wordsAll SL = A ++ w :: B) (hA : ∀ x ∈ A, okW x = true) (hw : okW w = false) : badW SL = some w := by
  unfold badW
  rw [e, List.find?_append, List.find?_eq_none.mpr fun x hx => by rw [hA x hx]; decide]
  rw [Option.none_or, List.find?_cons_of_pos (by rw [hw]; rfl)]
theorem drop_lead_ne : ∀ {l : List Nat}, spaces l = false → ∃ c r, l.drop (lead l) = c :: r
  | [], h => by cases h
  | c :: r, h => by
    by_cases e : c = 32
    · subst e
      have h2 : spaces r = false := h
      obtain ⟨d, r', k⟩ := drop_lead_ne h2
      refine ⟨d, r', ?_⟩
      have : lead (32 :: r) = lead r + 1 := rfl
      rw [this, List.drop_succ_cons]
      exact k
    · have : lead (c :: r) = 0 := by
        unfold lead
        rw [List.takeWhile_cons_of_neg (by rw [beq_iff_eq]; exact e)]
        rfl
      exact ⟨c, r, by rw [this, List.drop_zero]⟩
theorem okc_no9 {l : List Nat} (h : okc l = true) : ∀ c ∈ l, c ≠ 9 := fun c hc => by
  unfold okc at h
  have := List.all_eq_true.mp h c hc
  rw [Bool.and_eq_true, decide_eq_true_eq, decide_eq_true_eq] at this
  omega
theorem rem_okc {l : List Nat} (h : okc l = true) : remL l = (spaces l || pre [35] (l.drop (lead l))) := by
  have h9 := okc_no9 h
  unfold remL
  rw [nine_spaces h9]
  congr 1
  have e1 : (" \t" : Str) = ⟨#[32, 9]⟩ := ext_tl (by decide +kernel)
  have e2 : ("#" : Str) = ⟨[35].toArray⟩ := ext_tl (by decide +kernel)
  rw [e2, starts_pre _ (by decide), e1]
  unfold Txt.lstripChars
  rw [lstrip_tl]
  have e3 : (fun c => (#[32, 9] : Array Nat).contains c) = fun c => (c == 32 || c == 9) := by
    funext c
    rw [Bool.eq_iff_iff, Array.contains_iff_mem]
    simp
  have e4 : (tl (mk l)).takeWhile (#[32, 9] : Array Nat).contains = l.takeWhile fun c => c == 32 := by
    show l.takeWhile (fun c => (#[32, 9] : Array Nat).contains c) = _
    rw [e3]
    clear h e1 e2 e3
    induction l with
    | nil => rfl
    | cons c r ih =>
      have hc : (c == 9) = false := beq_eq_false_iff_ne.mpr (h9 c (List.mem_cons_self ..))
      rw [List.takeWhile_cons, List.takeWhile_cons, hc, Bool.or_false, ih fun d hd => h9 d (List.mem_cons_of_mem _ hd)]
  rw [e4]
  rfl
theorem knW_ne {ws : List Str} : (knW ws).isEmpty = ws.isEmpty := by
  rcases nil_or_snoc ws with rfl | ⟨a, x, rfl⟩
  · rfl
  · rw [knW_snoc]
    have key : ∀ {α : Type} (l : List α) (y : α), (l ++ [y]).isEmpty = false := fun l y => by cases l <;> rfl
    unfold addD
    rw [key, key]
theorem nilEmpty {α β : Type} {F : α → β → Prop} {xs : List α} {ys : List β} (h : Paired F xs ys) : xs.isEmpty = ys.isEmpty := by
  cases h <;> rfl
theorem filter_all {p : List Nat → Bool} (l : List (List Nat)) : (l.filter fun x => !p x).isEmpty = l.all p := by
  induction l with
  | nil => rfl
  | cons a r ih =>
    rw [List.filter_cons, List.all_cons]
    cases p a with
    | true => exact ih
    | false => rfl
theorem fm_filter {p : List Nat → Bool} (l : List (List Nat)) : l.filterMap (fun x => if p x = true then some x else none) = l.filter p := by
  induction l with
  | nil => rfl
  | cons a r ih =>
    rw [List.filter_cons]
    cases h : p a with
    | true =>
      rw [List.filterMap_cons_some (by rw [h, if_pos rfl]), ih]
      rfl
    | false =>
      rw [List.filterMap_cons_none (by rw [h]; rfl), ih]
      rfl
theorem strV_mk (ls : List (List Nat)) : strV ls = (ls.map mk).map V.str := rfl
theorem join_rows (ls : List (List Nat)) : Txt.join "" ((ls.map (· ++ [10])).map mk) = rowsT ls := by
  have e : ("" : Str) = mk [] := ext_tl (by decide +kernel)
  rw [e, join_mk]
  rfl
theorem ten_sum {ls : List (List Nat)} (h : ∀ l ∈ ls, l.length ≤ 60) (hn : ls.length ≤ 20) : ((((ls.map (· ++ [10])).map mk).map (·.length)).sum) ≤ 1220 := by
  have := sum_le (b := 61) (l := (((ls.map (· ++ [10])).map mk).map (·.length))) fun x hx => by
    obtain ⟨z, hz, rfl⟩ := List.mem_map.mp hx
    obtain ⟨y, hy, rfl⟩ := List.mem_map.mp hz
    obtain ⟨l, hl, rfl⟩ := List.mem_map.mp hy
    have := h l hl
    rw [mk_len, List.length_append]
    show l.length + 1 ≤ 61
    omega
  rw [List.length_map, List.length_map, List.length_map] at this
  have h2 : 61 * ls.length ≤ 61 * 20 := Nat.mul_le_mul_left _ hn
  omega
theorem sgn35 (c : Nat) (r : List Nat) : decide (V.str ⟨#[c]⟩ = V.str "#") = pre [35] (c :: r) := by
  have e : ("#" : Str) = ⟨#[35]⟩ := ext_tl (by decide +kernel)
  unfold pre
  rw [e, Bool.eq_iff_iff, decide_eq_true_eq, beq_iff_eq]
  constructor
  · intro h
    have : tl (⟨#[c]⟩ : Str) = tl ⟨#[35]⟩ := congrArg (fun v => match v with | V.str y => tl y | _ => []) h
    exact this
  · intro h
    have : c = 35 := by
      have h : [c] = [35] := h
      exact List.head_eq_of_cons_eq h
    rw [this]
section
variable {P : Program} {w : World} {K : PySem.W.Frag} {mg : Str → Option Value} {base : Heap}
def sp_law_one_read : Sp := fun vs H Q _ => ∃ (p F : Addr) (xs : List V) (B : List (List Nat)) (m num n : Nat), vs = [.ref p, .int (m : Int), .int (num : Int)] ∧ H F = some (.lst xs) ∧ H p = some (.lst (strV B)) ∧ BlR B m ∧ num ≤ 1000 ∧ lead (B.getD 0 []) = n ∧ (badR B 0 m B.length n = none → ∀ r ∈ rdSl B m (n + 4), RowOk r) ∧
  ∀ (H' : Hp) (T : Addr), Same H H' → OneAt (offH F H') T (rdOne B m num n) → Q (.ref T) H'
theorem ok_law_one_read {f : Addr} {fd : FuncData} {dvs : List V} (F : Fn K "_law_one_read" s_law_one_read dvs f fd) (O_law_fault : Own P w K mg base "_law_fault" 1 ["lines", "many", "indent"] [] (sp_law_fault)) (O_law_option_words : Own P w K mg base "_law_option_words" 1 ["line"] [] (sp_law_option_words)) (O_law_flags : Own P w K mg base "_law_flags" 1 [] [] (sp_law_flags)) (O_law_error : Own P w K mg base "_law_error" 1 ["lines"] [] (sp_law_error)) (m_len : mg "len" = none) (m_sorted : mg "sorted" = none) : FnOk P w K mg base CX0 2 f fd ["lines", "many", "number"] (sp_law_one_read) := by
  refine Fn.okN F sc_law_one_read (fun vs H Q E h => ?_) (fun cdv A outer s H vs Q E hr h => ?_)
  · obtain ⟨_, _, _, _, _, _, _, rfl, _⟩ := h
    rfl
  · obtain ⟨p, F, xs, B, m, num, n, rfl, hF, hp, ho, hnum, hld, hro, k⟩ := h
    refine ⟨_, (pss_cons (ps_set (i := 3) sc_law_one_read.nd rfl (.inr rfl) (pe_op op_sub (pe_callB call_len_str (by rfl) m_len PySem.boot_len (pa_cons (pe_ix ix_list (pv 0) pe_int (fun _ _ => rfl)) pa_nil)) (pe_callB call_len_str (by rfl) m_len PySem.boot_len (pa_cons (pe_m1 PySem.F.slot_str_lstrip PySem.F.type_str_lstrip mt_lstripChars (pe_ix ix_list (pv 0) pe_int (fun _ _ => rfl)) pe_str) pa_nil))))
      (pss_cons (ps_set (i := 4) sc_law_one_read.nd rfl (.inl rfl) (pe_own O_law_fault (hr.mono (by decide)) (by rfl) (pa_cons (pv 0) (pa_cons (pv 1) (pa_cons (pv 3) pa_nil)))))
      (pss_cons (ps_if (pt_cmpR op_notN (pv 4) pe_non (nomark _))
          (pss_one (ps_ret (pe_tup (pa_cons (pe_op op_add (pv 2) (pe_ix ix_tup (pv 4) pe_int (fun _ _ => rfl))) (pa_cons (pe_ix ix_tup (pv 4) pe_int (fun _ _ => rfl)) (pa_cons (pe_ix ix_tup (pv 4) pe_int (fun _ _ => rfl)) pa_nil))))))
          pss_nil)
      (pss_cons (ps_par3 (i := 5) (j := 6) (l := 7) (by rfl) sc_law_one_read.nd rfl rfl rfl (by decide) (by decide) (by decide) rfl rfl rfl (pa_cons (pe_lc (own := [("line", 15)]) (g := gName 15) (tt := tYes) (by rfl) sc_law_one_read.nd (pi_list (pe_slice sl_list (pv 0) po_none (po_some (pv 1)))) (blkOk_by (own := [("line", 15)]) (N := ["lines", "many", "number", "indent", "fault", "rows", "known", "bare", "row", "words", "rest", "word", "source", "wants", "found", "line", "want", "one"]) (sc := defScope s_law_one_read) (by decide +kernel)) (fun _ _ _ _ _ => (pg_name (i := 15) sc_law_one_read.nd rfl (.inl rfl))) (fun _ _ _ _ _ => pts_nil) (fun _ _ _ _ _ => (pe_slice sl_str (pv 15) (po_some (pe_op op_add (pv 3) pe_int)) po_none))) (pa_cons (pe_lst pa_nil) (pa_cons pe_str pa_nil))) (by rfl))
      (pss_cons (ps_for PassesOwn.never rfl (pi_list (pv 5)) (pg_name (i := 8) sc_law_one_read.nd rfl (.inl rfl))
          (pss_cons (ps_asg (pe_own O_law_option_words (hr.mono (by decide)) (by rfl) (pa_cons (pv 8) pa_nil)) (pg_tup rfl (pgs_cons (pg_name (i := 9) sc_law_one_read.nd rfl (.inl rfl)) (pgs_cons (pg_name (i := 10) sc_law_one_read.nd rfl (.inl rfl)) pgs_nil))))
            (pss_cons (ps_set (i := 7) sc_law_one_read.nd rfl (.inl rfl) (pe_op op_add_str (pe_op op_add_str (pv 7) (pv 10)) pe_str))
            (pss_one (ps_for PassesOwn.never rfl (pi_list (pv 9)) (pg_name (i := 11) sc_law_one_read.nd rfl (.inr rfl))
                (pss_cons (ps_if (PW.pt (pw_or (pt_cmpR op_notIn_seq (pe_slice sl_str (pv 11) po_none (po_some pe_int)) (pe_tup (pa_cons pe_str (pa_cons pe_str pa_nil))) rfl) (pw_or1 (pt_cmpR op_notIn_seq (pe_slice sl_str (pv 11) (po_some pe_int) po_none) (pe_own0 O_law_flags (hr.mono (by decide)) (by rfl)) rfl))))
                      (pss_one (ps_ret (pe_tup (pa_cons (pv 2) (pa_cons pe_str (pa_cons (pv 11) pa_nil))))))
                      pss_nil)
                  (pss_one (ps_set (i := 6) sc_law_one_read.nd rfl (.inl rfl) (pe_op op_cat (pe_lc (own := [("one", 17)]) (g := gName 17) (by rfl) sc_law_one_read.nd (pi_list (pv 6)) (blkOk_by (own := [("one", 17)]) (N := ["lines", "many", "number", "indent", "fault", "rows", "known", "bare", "row", "words", "rest", "word", "source", "wants", "found", "line", "want", "one"]) (sc := defScope s_law_one_read) (by decide +kernel)) (fun _ _ _ _ _ => (pg_name (i := 17) sc_law_one_read.nd rfl (.inl rfl))) (fun _ _ _ _ _ => (pts_one (pt_cmpR op_ne (pe_ix (ix_tupK (K' := K) rfl) (pv 17) pe_int (fun _ _ => rfl)) (pe_slice sl_str (pv 11) (po_some pe_int) po_none) (nomark _)))) (fun _ _ _ _ _ => (pv 17))) (pe_lst (pa_cons (pe_tup (pa_cons (pe_slice sl_str (pv 11) (po_some pe_int) po_none) (pa_cons (pe_cmpR op_eq (pe_slice sl_str (pv 11) po_none (po_some pe_int)) pe_str (nomark _)) pa_nil))) pa_nil)))))))))))
      (pss_cons (ps_par (i := 12) (j := 13) (by rfl) sc_law_one_read.nd rfl rfl (by decide) rfl rfl (pa_cons (pe_m1 PySem.F.slot_str_join PySem.F.type_str_join mt_join pe_str (pe_lc (own := [("row", 8)]) (g := gName 8) (tt := tYes) (by rfl) sc_law_one_read.nd (pi_list (pv 5)) (blkOk_by (own := [("row", 8)]) (N := ["lines", "many", "number", "indent", "fault", "rows", "known", "bare", "row", "words", "rest", "word", "source", "wants", "found", "line", "want", "one"]) (sc := defScope s_law_one_read) (by decide +kernel)) (fun _ _ _ _ _ => (pg_name (i := 8) sc_law_one_read.nd rfl (.inl rfl))) (fun _ _ _ _ _ => pts_nil) (fun _ _ _ _ _ => (pe_op op_add_str (pv 8) pe_str)))) (pa_cons (pe_lc (own := [("line", 15)]) (g := gName 15) (tt := tYes) (by rfl) sc_law_one_read.nd (pi_list (pe_slice sl_list (pv 0) (po_some (pv 1)) po_none)) (blkOk_by (own := [("line", 15)]) (N := ["lines", "many", "number", "indent", "fault", "rows", "known", "bare", "row", "words", "rest", "word", "source", "wants", "found", "line", "want", "one"]) (sc := defScope s_law_one_read) (by decide +kernel)) (fun _ _ _ _ _ => (pg_name (i := 15) sc_law_one_read.nd rfl (.inl rfl))) (fun _ _ _ _ _ => pts_nil) (fun _ _ _ _ _ => (pe_slice sl_str (pv 15) (po_some (pv 3)) po_none))) pa_nil)) (by rfl))
      (pss_cons (ps_set (i := 14) sc_law_one_read.nd rfl (.inl rfl) (pe_tup (pa_cons (pv 12) (pa_cons (pe_m1 PySem.F.slot_str_join PySem.F.type_str_join mt_join pe_str (pe_lc (own := [("want", 16)]) (g := gName 16) (tt := tYes) (by rfl) sc_law_one_read.nd (pi_list (pv 13)) (blkOk_by (own := [("want", 16)]) (N := ["lines", "many", "number", "indent", "fault", "rows", "known", "bare", "row", "words", "rest", "word", "source", "wants", "found", "line", "want", "one"]) (sc := defScope s_law_one_read) (by decide +kernel)) (fun _ _ _ _ _ => (pg_name (i := 16) sc_law_one_read.nd rfl (.inl rfl))) (fun _ _ _ _ _ => pts_nil) (fun _ _ _ _ _ => (pe_op op_add_str (pv 16) pe_str)))) (pa_cons (pv 2) (pa_cons (pv 3) pa_nil))))))
      (pss_cons (ps_if (pt_cmpR (op_eqD hr.units) (pe_lc (own := [("row", 8)]) (g := gName 8) (by rfl) sc_law_one_read.nd (pi_list (pv 5)) (blkOk_by (own := [("row", 8)]) (N := ["lines", "many", "number", "indent", "fault", "rows", "known", "bare", "row", "words", "rest", "word", "source", "wants", "found", "line", "want", "one"]) (sc := defScope s_law_one_read) (by decide +kernel)) (fun _ _ _ _ _ => (pg_name (i := 8) sc_law_one_read.nd rfl (.inl rfl))) (fun _ _ _ _ _ => (pts_one (PW.pt (pw_and (pt_cmpR op_ne (pe_m1 PySem.F.slot_str_strip PySem.F.type_str_strip mt_stripChars (pv 8) pe_str) pe_str (nomark _)) (pw_and1 (pt_cmpR op_ne (pe_ix ix_str (pe_m1 PySem.F.slot_str_lstrip PySem.F.type_str_lstrip mt_lstripChars (pv 8) pe_str) pe_int (fun _ _ => rfl)) pe_str (nomark _))))))) (fun _ _ _ _ _ => (pv 8))) (pe_lst pa_nil) (nomark _))
          (pss_one (ps_ret (pe_ifExp (pt_cmpR (op_neE hr.units) (pv 6) (pe_lst pa_nil) (nomark _)) (pe_tup (pa_cons (pv 2) (pa_cons pe_str (pa_cons (pv 12) pa_nil)))) (pe_op op_catT (pe_tup (pa_cons pe_str pa_nil)) (pv 14)))))
          pss_nil)
      (pss_one (ps_ret (pe_op op_catT (pe_op op_catT (pe_tup (pa_cons pe_str pa_nil)) (pv 14)) (pe_tup (pa_cons (pe_own O_law_error (hr.mono (by decide)) (by rfl) (pa_cons (pv 13) pa_nil)) (pa_cons (pe_callB (cr_sortedP hr.units) (by rfl) m_sorted (by decide +kernel) (pa_cons (pv 6) pa_nil)) (pa_cons (pv 7) pa_nil))))))))))))))), ?_⟩
    have hme := ho.me
    have hm1 := ho.m1
    have hfew := ho.few
    obtain ⟨l0, h0⟩ : ∃ l, B[0]? = some l := ⟨_, List.getElem?_eq_getElem (by omega)⟩
    have hl0 := ho.row l0 (List.mem_of_getElem? h0)
    have zl0 : (mk l0).length ≤ sizeLine := by rw [mk_len]; exact line_of (by omega)
    rw [getD_at h0] at hld
    have hn60 : n ≤ 60 := by
      have := lead_le l0
      omega
    have at0 : atI (strV B) (0 : Int) = some (.str (mk l0)) := atI_nat (j := 0) (strV_get _ h0)
    have hind := indent_len (mk l0)
    rw [← sp_one] at hind
    have hind : ((mk l0).length : Int) - ((Txt.lstripChars (mk l0) " ").length : Int) = (n : Int) := by
      rw [hind, ← hld]
      rfl
    refine ⟨.ref p, rfl, p, _, 0, .str (mk l0), rfl, rfl, SqL.of hp, at0, _, rfl, zl0, .ref p, rfl, p, _, 0, .str (mk l0), rfl, rfl, SqL.of hp, at0, ⟨_, rfl⟩, _, " ", rfl, rfl, zl0, _, rfl, Nat.le_trans (len_stripBy _ _ _ _) zl0, _, _, rfl, rfl, ?_⟩
    show gName 3 (V.int (((mk l0).length : Int) - ((Txt.lstripChars (mk l0) " ").length : Int))) _ _ _
    rw [hind]
    refine ⟨.ref p, rfl, .int (m : Int), rfl, .int (n : Int), rfl, p, n, m, B, rfl, hp, ho, hn60, fun H1 v s1 hv => ?_⟩
    have hp1 := s1 _ _ hp
    unfold rdOne at k
    cases hb : badR B 0 m B.length n with
    | some f =>
      rw [hb] at hv k
      obtain ⟨T, rfl, eT⟩ := hv
      refine ⟨_, rfl, rfl, true, rfl, iteT ⟨_, rfl, .ref T, rfl, T, _, 0, .int (f.1 : Int), rfl, rfl, SqT.of eT, rfl, _, _, rfl, rfl, .ref T, rfl, T, _, 1, .str f.2.1, rfl, rfl, SqT.of eT, rfl, .ref T, rfl, T, _, 2, .str f.2.2, rfl, rfl, SqT.of eT, rfl, by show 3 ≤ sizeLine; decide, fun T2 n2 => k _ T2 (s1.trans (same_new n2)) (fin_cut hF _ s1 n2)⟩⟩
    | none =>
    rw [hb] at hv k
    have hv : v = .non := hv
    subst hv
    have hro := hro hb
    dsimp only at k
    refine ⟨_, rfl, rfl, false, rfl, iteF ?_⟩
    -- the rows
    refine ⟨.ref p, rfl, .int (m : Int), rfl, (m : Int), rfl, p, _, rfl, SqL.of hp1, fun L0 nL0 => ?_⟩
    rw [cutV_to, strV_take]
    generalize g2 : L2.upd H1 L0 _ = H2
    obtain ⟨s2, eL0⟩ := laid g2 nL0
    refine ⟨L0, rfl, ⟨_, SqL.of eL0⟩, fun R nR => lc_fm (K := K) (a := L0) (B := B.take m) (fun l => some (l.drop (n + 4))) nR (by rw [List.length_take]; omega) eL0 (fun i l H3 R3 Z hi s3 hy hn => ?_) fun H3 s3 eR => ?_⟩
    · have zl : (mk l).length ≤ sizeLine := by
        have hm := List.mem_of_getElem? hi
        have := (ho.row l (List.mem_of_mem_take hm)).2
        rw [mk_len]
        exact line_of (by omega)
      refine ⟨rfl, .str (mk l), rfl, .int (n : Int), rfl, _, _, rfl, rfl, _, rfl, mk l, rfl, zl, ?_⟩
      show R3 (.str (cutS (mk l) (some ((n + 4 : Nat) : Int)) none)) H3
      rw [cutF]
      exact hy _ rfl
    have eR : H3 R = some (.lst (strV (rdSl B m (n + 4)))) := by
      rw [eR]
      congr 3
      exact List.filterMap_eq_map (f := fun l : List Nat => l.drop (n + 4)) ▸ rfl
    have hsl : (rdSl B m (n + 4)).length ≤ 20 := by
      unfold rdSl
      rw [List.length_map, List.length_take]
      omega
    have hp3 := s3 _ _ (s2 _ _ hp1)
    have s03 : Same H H3 := (s1.trans s2).trans s3
    clear nL0 eL0 s1 s2 s3
    refine ⟨by show 0 ≤ sizeLine; decide, fun Kn nK => ?_⟩
    generalize g4 : L2.upd H3 Kn _ = H4
    obtain ⟨s4, eK⟩ := laid g4 nK
    have eR4 := s4 _ _ eR
    generalize hSL : rdSl B m (n + 4) = SL at *
    refine ⟨_, _, _, rfl, .ref R, rfl, R, rfl, ⟨_, SqL.of eR4⟩, for_list (K := K) (a := R) (xs := strV SL) (fun q σ H5 => ∃ (Kn : Addr) (ys : List V) (v8 v9 v10 v11 : Option V), σ = [some (.ref p), some (.int (m : Int)), some (.int (num : Int)), some (.int (n : Int)), some .non, some (.ref R), some (.ref Kn), some (.str (bareT (SL.take q) [])), v8, v9, v10, v11, none, none, none, none, none, none] ∧ H5 Kn = some (.lst ys) ∧ Paired (PrAt H5) ys (knW (wordsAll (SL.take q))) ∧ (∀ w ∈ wordsAll (SL.take q), okW w = true) ∧ Same H4 H5) ⟨Kn, [], none, none, none, none, ?_, eK, .nil, nofun, (fun _ _ e => e)⟩ (fun q σ H5 _ h => by
      obtain ⟨_, _, _, _, _, _, _, _, _, _, s⟩ := h
      exact SqL.of (s _ _ eR4)) ?_ ?_⟩
    · have e0 : bareT (SL.take 0) [] = "" := by
        rw [List.take_zero]
        exact ext_tl (by decide +kernel)
      rw [e0]
      rfl
    · rintro q v σ H5 hv ⟨Kn5, ys, v8, v9, v10, v11, rfl, eK5, hys, hok, s5⟩
      obtain ⟨r, hr, rfl⟩ := strV_at hv
      have hq : q < SL.length := (List.getElem?_eq_some_iff.mp hr).1
      have hrm := List.mem_of_getElem? hr
      have ro := hro r hrm
      have rok := ro.ok
      have rle := ro.le
      refine ⟨.str (mk r), rfl, r, rfl, rok, rle, fun H6 T W s6 eW eT => ?_⟩
      rw [ro.wd] at eW
      refine ⟨T, _, rfl, SqT.of eT, rfl, _, _, rfl, _, _, rfl, rfl, ?_⟩
      have hblen : (bareT (SL.take q) []).length ≤ 20 * 61 := by
        have h1 := bareT_len (ls := SL.take q) fun l hl => (hro l (List.mem_of_mem_take hl)).le
        rw [List.length_take] at h1
        exact Nat.le_trans h1 (Nat.mul_le_mul_right _ (by omega))
      have hrlen : (lwBare r).length ≤ 60 := by
        have h1 := bareS_len r
        rw [len_tl, ro.br]
        omega
      have hten : ("\n" : Str).length = 1 := rfl
      have hstep := bare_snoc (SL.take q) r ro.br
      have htk : SL.take q ++ [r] = SL.take (q + 1) := by
        rw [List.take_add_one, hr]
        rfl
      rw [htk] at hstep
      refine ⟨_, rfl, _, rfl, _, _, rfl, rfl, line_of (by omega), _, _, rfl, rfl, by rw [app_len]; exact line_of (by omega), ?_⟩
      show gName 7 (V.str (bareT (SL.take q) [] ++ lwBare r ++ "\n")) _ _ _
      rw [hstep]
      have hwa : wordsAll (SL.take (q + 1)) = wordsAll (SL.take q) ++ dwL r := by
        rw [← htk, wa_app]
        unfold wordsAll
        rw [List.map_cons, List.map_nil, List.flatten_cons, List.flatten_nil, List.append_nil]
      have hwS : wordsAll SL = wordsAll (SL.take (q + 1)) ++ wordsAll (SL.drop (q + 1)) := by rw [← wa_app, List.take_append_drop]
      have hfew1 : (wordsAll (SL.take (q + 1))).length ≤ 100000 := few_of (fun l hl => by have := (hro l (List.mem_of_mem_take hl)).le; omega) (by rw [List.length_take]; omega)
      refine ⟨.ref W, rfl, W, rfl, ⟨_, SqL.of eW⟩, for_list (K := K) (a := W) (xs := (dwL r).map V.str) (fun j σ H7 => ∃ (Kn : Addr) (ys : List V) (v11 : Option V), σ = [some (.ref p), some (.int (m : Int)), some (.int (num : Int)), some (.int (n : Int)), some .non, some (.ref R), some (.ref Kn), some (.str (bareT (SL.take (q + 1)) [])), some (.str (mk r)), some (.ref W), some (.str (lwBare r)), v11, none, none, none, none, none, none] ∧ H7 Kn = some (.lst ys) ∧ Paired (PrAt H7) ys (knW (wordsAll (SL.take q) ++ (dwL r).take j)) ∧ (∀ w ∈ (dwL r).take j, okW w = true) ∧ Same H6 H7) ⟨Kn5, ys, v11, rfl, s6 _ _ eK5, by rw [List.take_zero, List.append_nil]; exact pr_same s6 hys, by rw [List.take_zero]; exact nofun, (fun _ _ e => e)⟩ (fun j σ H7 _ h => by
        obtain ⟨_, _, _, _, _, _, _, s⟩ := h
        exact SqL.of (s _ _ eW)) ?_ ?_⟩
      · rintro j v σ H7 hv ⟨Kn7, ys7, v11, rfl, eK7, hys7, hok7, s7⟩
        rw [List.getElem?_map] at hv
        obtain ⟨x, hx, rfl⟩ := Option.map_eq_some_iff.mp hv
        have hxm := List.mem_of_getElem? hx
        have hxl : x.length ≤ 60 := Nat.le_trans (dw_le hxm) rle
        have zx : x.length ≤ sizeLine := line_of (by omega)
        have hdw : dwL r = (dwL r).take j ++ x :: (dwL r).drop (j + 1) := by
          have h1 : j < (dwL r).length := (List.getElem?_eq_some_iff.mp hx).1
          have h2 : (dwL r)[j] = x := (List.getElem?_eq_some_iff.mp hx).2
          rw [← h2, List.getElem_cons_drop, List.take_append_drop]
        have hfault : okW x = false → badP SL = some (("option" : Str), x) := fun hw => by
          unfold badP
          rw [badW_at (A := wordsAll (SL.take q) ++ (dwL r).take j) (B := (dwL r).drop (j + 1) ++ wordsAll (SL.drop (q + 1))) (by
            rw [hwS, hwa]
            conv => lhs; rw [hdw]
            simp) (fun y hy => by
            rcases List.mem_append.mp hy with h | h
            · exact hok y h
            · exact hok7 y h) hw]
        have hokw : okW x = (inV (.str (cutS x none (some (1 : Int)))) [.str "+", .str "-"] && has (cutS x (some (1 : Int)) none) v_FLAGS) := rfl
        have s47 := (s5.trans s6).trans s7
        refine ⟨.str x, rfl, 1, rfl, x, rfl, zx, by show 2 ≤ sizeLine; decide, fun T1 nT1 => ?_⟩
        generalize g5 : L2.upd H7 T1 _ = H8
        obtain ⟨s8, eT1⟩ := laid g5 nT1
        have stop : ∀ (H9 : Hp) (T2 : Addr), Same H8 H9 → okW x = false → H9 T2 = none → Q (.ref T2) (L2.upd H9 T2 (.tup [.int (num : Int), .str "option", .str x])) := fun H9 T2 s9 hw n2 => by
          rw [hfault hw] at k
          have s09 := s03.trans (s4.trans (s47.trans (s8.trans s9)))
          exact k _ T2 (s09.trans (same_new n2)) (fin_cut hF _ s09 n2)
        refine ⟨T1, _, rfl, .inr (SqT.of eT1), rfl, rfl, _, rfl, ?_⟩
        show ite ((!inV (.str (cutS x none (some (1 : Int)))) [.str "+", .str "-"]) = true) _ _
        generalize hk1 : inV (.str (cutS x none (some (1 : Int)))) [.str "+", .str "-"] = k1 at hokw ⊢
        cases k1 with
        | false =>
          rw [Bool.false_and] at hokw
          refine iteT (iteT ⟨_, rfl, _, rfl, by show 3 ≤ sizeLine; decide, fun T2 n2 => stop _ T2 (fun _ _ e => e) hokw n2⟩)
        | true =>
        rw [Bool.true_and] at hokw
        refine iteF ⟨.str x, rfl, 1, rfl, x, rfl, zx, rfl, fun H9 F s9 nF eF => ⟨F, _, rfl, .inl (SqL.of eF), rfl, flat_strs _, _, rfl, ?_⟩⟩
        show ite ((!inV (.str (cutS x (some (1 : Int)) none)) (FLS.map V.str)) = true) _ _
        rw [inV_str, fls_has, ← hokw]
        cases hkx : okW x with
        | false => exact iteT ⟨_, rfl, _, rfl, by show 3 ≤ sizeLine; decide, fun T2 n2 => stop _ T2 s9 hkx n2⟩
        | true =>
        refine iteF ?_
        have s79 := s8.trans s9
        have eK9 := s79 _ _ eK7
        have hys9 := pr_same s79 hys7
        generalize hds : knW (wordsAll (SL.take q) ++ (dwL r).take j) = ds at hys9 hys7
        have hdl : ds.length ≤ 200000 := by
          rw [← hds]
          refine Nat.le_trans (knW_len _) ?_
          rw [hwa, List.length_append] at hfew1
          rw [List.length_append, List.length_take]
          omega
        refine ⟨.ref Kn7, rfl, Kn7, rfl, ⟨_, SqL.of eK9⟩, fun C nC => lc_list (K := K) (a := Kn7) (xs := ys7) (fun i H10 => ∃ zs, H10 C = some (.lst zs) ∧ Paired (PrAt H9) zs ((ds.take i).filter fun d => decide (d.1 ≠ wKey x)) ∧ zs.length ≤ i ∧ Same H9 H10) ⟨[], upd_same, .nil, Nat.le_refl _, same_new nC⟩ (fun i H10 _ h => by
          obtain ⟨_, _, _, _, s⟩ := h
          exact SqL.of (s _ _ eK9)) ?_ ?_⟩
        · rintro i v H10 hv ⟨zs, eC, hzs, hzl, s10⟩
          obtain ⟨d, hd, t, rfl, et⟩ := paired_get hys9 hv
          have hil : i < ds.length := (List.getElem?_eq_some_iff.mp hd).1
          have ht : (ds.take (i + 1)).filter (fun d => decide (d.1 ≠ wKey x)) = (ds.take i).filter (fun d => decide (d.1 ≠ wKey x)) ++ if d.1 = wKey x then [] else [d] := by
            rw [List.take_add_one, hd, List.filter_append]
            congr 1
            by_cases h : d.1 = wKey x
            · rw [if_pos h]
              show List.filter _ [d] = []
              rw [List.filter_cons_of_neg (by rw [decide_eq_true_eq]; exact fun z => z h)]
              rfl
            · rw [if_neg h]
              show List.filter _ [d] = [d]
              rw [List.filter_cons_of_pos (p := fun d : Str × Bool => decide (d.1 ≠ wKey x)) (decide_eq_true h)]
              rfl
          refine ⟨rfl, .ref t, rfl, t, _, 0, .str d.1, rfl, rfl, SqT.of (s10 _ _ et), rfl, .str x, rfl, 1, rfl, x, rfl, zx, rfl, _, rfl, ?_⟩
          show ite ((!decide (V.str d.1 = V.str (wKey x))) = true) _ _
          by_cases h : d.1 = wKey x
          · rw [h, decide_eq_true rfl]
            refine iteF ⟨zs, eC, ?_, by omega, s10⟩
            rw [ht, if_pos h, List.append_nil]
            exact hzs
          · rw [decide_eq_false fun z => h (by injection z)]
            refine iteT ⟨.ref t, rfl, zs, eC, Nat.lt_of_le_of_lt (show zs.length ≤ 200000 by omega) (by decide), zs ++ [.ref t], upd_same, ?_, by rw [List.length_append]; exact Nat.succ_le_succ hzl, fun b o e => ?_⟩
            · rw [ht, if_neg h]
              exact paired_app (.cons ⟨t, rfl, et⟩ .nil) hzs
            · rw [upd_ne (ne_of_none e nC)]
              exact s10 b o e
        · rintro H10 ⟨zs, eC, hzs, hzl, s10⟩
          have hyl : ys7.length = ds.length := hys9.length
          rw [hyl, List.take_length] at hzs
          rw [hyl] at hzl
          refine ⟨.str x, rfl, 1, rfl, x, rfl, zx, .str x, rfl, 1, rfl, x, rfl, zx, rfl, ?_⟩
          skip
          refine ⟨by show 2 ≤ sizeLine; decide, fun T3 n3 => ?_⟩
          generalize g6 : L2.upd H10 T3 _ = H11
          obtain ⟨s11, eT3⟩ := laid g6 n3
          refine ⟨by show 1 ≤ sizeLine; decide, fun L3 nL3 => ?_⟩
          generalize g7 : L2.upd H11 L3 _ = H12
          obtain ⟨s12, eL3⟩ := laid g7 nL3
          refine ⟨C, L3, _, _, rfl, rfl, s12 _ _ (s11 _ _ eC), eL3, ?_, fun Z nZ => ?_⟩
          · rw [List.length_cons, List.length_nil]
            exact line_of (by omega)
          have sZ := same_new (o := .lst (zs ++ [.ref T3])) nZ
          have sAll := ((s10.trans s11).trans s12).trans sZ
          have hnew : Paired (PrAt (L2.upd H12 Z (.lst (zs ++ [.ref T3])))) (zs ++ [.ref T3]) (addD ds x) := paired_app (.cons ⟨T3, rfl, sZ _ _ (s12 _ _ eT3)⟩ .nil) (pr_same sAll hzs)
          have htj : (dwL r).take (j + 1) = (dwL r).take j ++ [x] := by
            rw [List.take_add_one, hx]
            rfl
          refine ⟨Z, _, _, rfl, upd_same, ?_, fun y hy => ?_, (s7.trans s79).trans sAll⟩
          · rw [htj, ← List.append_assoc, knW_snoc, hds]
            exact hnew
          · rw [htj] at hy
            rcases List.mem_append.mp hy with h | h
            · exact hok7 y h
            · rw [List.mem_singleton.mp h]
              exact hkx
      · rintro σ H7 ⟨Kn7, ys7, v11, rfl, eK7, hys7, hok7, s7⟩
        rw [List.length_map, List.take_length] at hok7 hys7
        rw [← hwa] at hys7
        exact ⟨Kn7, ys7, _, _, _, _, rfl, eK7, hys7, fun w hw => by
          rw [hwa] at hw
          rcases List.mem_append.mp hw with h | h
          · exact hok w h
          · exact hok7 w h, (s5.trans s6).trans s7⟩
    · rintro σ H5 ⟨Kn5, ys, v8, v9, v10, v11, rfl, eK5, hys, hok, s5⟩
      rw [strV_len, List.take_length] at hys hok
      rw [strV_len, List.take_length]
      have eR5 := s5 _ _ eR4
      have hp5 := s5 _ _ (s4 _ _ hp3)
      have s05 := s03.trans (s4.trans s5)
      have hbw : badW SL = none := by
        unfold badW
        rw [List.find?_eq_none]
        intro x hx
        rw [hok x hx]
        decide
      have hrow60 : ∀ l ∈ SL, l.length ≤ 60 := fun l hl => (hro l hl).le
      clear s4 s5 nK eK eR4 hp3 s03
      refine ⟨⟨_, rfl⟩, .ref R, rfl, R, rfl, ⟨_, SqL.of eR5⟩, fun C1 nC1 => lc_fm (K := K) (a := R) (B := SL) (fun l => some (l ++ [10])) nC1 (by omega) eR5 (fun i l H6 R6 Z hi s6 hy hn => ?_) fun H6 s6 eC1 => ?_⟩
      · have zl := hrow60 l (List.mem_of_getElem? hi)
        refine ⟨rfl, _, rfl, _, _, rfl, rfl, ?_, ?_⟩
        · rw [mk_len]
          exact line_of (by show l.length + 1 ≤ 1000000; omega)
        · show R6 (.str (mk l ++ "\n")) H6
          rw [nl10, app_mk]
          exact hy _ rfl
      rw [show SL.filterMap (fun l => some (l ++ [10])) = SL.map (· ++ [10]) from List.filterMap_eq_map ▸ rfl] at eC1
      refine ⟨_, C1, (SL.map (· ++ [10])).map mk, rfl, rfl, .inl (SqL.of eC1), ?_, ?_⟩
      · have := ten_sum hrow60 hsl
        have h0 : ("" : Str).length = 0 := rfl
        rw [h0]
        omega
      rw [join_rows]
      have hp6 := s6 _ _ hp5
      refine ⟨.ref p, rfl, .int (m : Int), rfl, (m : Int), rfl, p, _, rfl, SqL.of hp6, fun L5 nL5 => ?_⟩
      rw [cutV_from _ _ (by rw [strV_len]; exact hme), strV_drop]
      generalize g8 : L2.upd H6 L5 _ = H7
      obtain ⟨s7, eL5⟩ := laid g8 nL5
      refine ⟨L5, rfl, ⟨_, SqL.of eL5⟩, fun Wn nW => lc_fm (K := K) (a := L5) (B := B.drop m) (fun l => some (l.drop n)) nW (by rw [List.length_drop]; omega) eL5 (fun i l H8 R8 Z hi s8 hy hn => ?_) fun H8 s8 eW => ?_⟩
      · have zl : (mk l).length ≤ sizeLine := by
          have hm := List.mem_of_getElem? hi
          have := (ho.row l (List.mem_of_mem_drop hm)).2
          rw [mk_len]
          exact line_of (by omega)
        refine ⟨rfl, .str (mk l), rfl, .int (n : Int), rfl, _, rfl, mk l, rfl, zl, ?_⟩
        show R8 (.str (cutS (mk l) (some ((n : Nat) : Int)) none)) H8
        rw [cutF]
        exact hy _ rfl
      have eW : H8 Wn = some (.lst (strV (rdWl B m n))) := by
        rw [eW]
        congr 3
        exact List.filterMap_eq_map (f := fun l : List Nat => l.drop n) ▸ rfl
      have hwl : (rdWl B m n).length ≤ 20 := by
        unfold rdWl
        rw [List.length_map, List.length_drop]
        omega
      have hwl60 : ∀ l ∈ rdWl B m n, l.length ≤ 60 ∧ ∀ c ∈ l, c < 1114112 := fun l hl => by
        obtain ⟨l', h', rfl⟩ := List.mem_map.mp hl
        have h2 := ho.row l' (List.mem_of_mem_drop h')
        rw [List.length_drop]
        refine ⟨by omega, fun c hc => ?_⟩
        have h3 := h2.1
        unfold okc at h3
        have := List.all_eq_true.mp h3 c (List.mem_of_mem_drop hc)
        rw [Bool.and_eq_true, decide_eq_true_eq, decide_eq_true_eq] at this
        omega
      generalize hWL : rdWl B m n = WL at *
      refine ⟨_, _, rfl, _, rfl, ⟨_, rfl⟩, .ref Wn, rfl, Wn, rfl, ⟨_, SqL.of eW⟩, fun C2 nC2 => lc_fm (K := K) (a := Wn) (B := WL) (fun l => some (l ++ [10])) nC2 (by omega) eW (fun i l H9 R9 Z hi s9 hy hn => ?_) fun H9 s9 eC2 => ?_⟩
      · have zl := (hwl60 l (List.mem_of_getElem? hi)).1
        refine ⟨rfl, _, rfl, _, _, rfl, rfl, ?_, ?_⟩
        · rw [mk_len]
          exact line_of (by show l.length + 1 ≤ 1000000; omega)
        · show R9 (.str (mk l ++ "\n")) H9
          rw [nl10, app_mk]
          exact hy _ rfl
      rw [show WL.filterMap (fun l => some (l ++ [10])) = WL.map (· ++ [10]) from List.filterMap_eq_map ▸ rfl] at eC2
      refine ⟨_, C2, (WL.map (· ++ [10])).map mk, rfl, rfl, .inl (SqL.of eC2), ?_, ?_⟩
      · have := ten_sum (fun l hl => (hwl60 l hl).1) hwl
        have h0 : ("" : Str).length = 0 := rfl
        rw [h0]
        omega
      rw [join_rows]
      refine ⟨_, rfl, _, rfl, by show 4 ≤ sizeLine; decide, fun TF nTF => ?_⟩
      generalize g9 : L2.upd H9 TF _ = H10
      obtain ⟨s10, eTF⟩ := laid g9 nTF
      have s58 := (s6.trans s7).trans s8
      have s510 := (s58.trans s9).trans s10
      have eR10 := s510 _ _ eR5
      have eK10 := s510 _ _ eK5
      have hys10 := pr_same s510 hys
      have eW10 := s10 _ _ (s9 _ _ eW)
      have s010 := s05.trans s510
      clear s6 s7 s8 s9 s10 s58 s510 s05 nC1 nL5 nW nC2 nTF
      -- is it a comment
      refine ⟨.ref R, rfl, R, rfl, ⟨_, SqL.of eR10⟩, fun C3 nC3 => lc_fm (K := K) (a := R) (B := SL) (fun l => if (!remL l) = true then some l else none) nC3 (by omega) eR10 (fun i l H11 R11 Z hi s11 hy hn => ?_) fun H11 s11 eC3 => ?_⟩
      · have ro := hro l (List.mem_of_getElem? hi)
        have rok := ro.ok
        have rle := ro.le
        have zl : (mk l).length ≤ sizeLine := by rw [mk_len]; exact line_of (by omega)
        refine ⟨rfl, .str (mk l), rfl, ⟨_, rfl⟩, _, " ", rfl, rfl, zl, rfl, _, rfl, ?_⟩
        show ite ((!decide (V.str (Txt.stripChars (mk l) " ") = V.str "")) = true) _ _
        rw [strip_test]
        show ite ((!spaces l) = true) _ _
        have hrem := rem_okc rok
        cases hs : spaces l with
        | true =>
          rw [hs, Bool.true_or] at hrem
          exact iteF (iteF (hn (by rw [hrem]; rfl)))
        | false =>
        obtain ⟨c, r, hd⟩ := drop_lead_ne hs
        rw [hs, Bool.false_or, hd, ← sgn35] at hrem
        refine iteT ⟨.str (mk l), rfl, ⟨_, rfl⟩, _, " ", rfl, rfl, zl, _, 0, c, rfl, rfl, Nat.le_trans (len_stripBy _ _ _ _) zl, by rw [lstrip_sp, hd]; exact atI_nat (j := 0) rfl, rfl, _, rfl, ?_⟩
        show ite ((!decide (V.str ⟨#[c]⟩ = V.str "#")) = true) _ _
        rw [← hrem]
        cases hre : remL l with
        | true => exact iteF (hn (by rw [hre]; rfl))
        | false => exact iteT ⟨_, rfl, hy l (by rw [hre]; rfl)⟩
      rw [fm_filter] at eC3
      have oks : ∀ x ∈ (SL.filter fun l => !remL l).map mk, okS x := fun x hx => by
        obtain ⟨l, h, rfl⟩ := List.mem_map.mp hx
        exact okc_okS (hro l (List.mem_filter.mp h).1).ok
      have hbp : badP SL = if (SL.all remL && !(wordsAll SL).isEmpty) = true then some (("no example" : Str), rowsT SL) else none := by
        unfold badP
        rw [hbw]
      rw [hbp] at k
      refine ⟨by show 0 ≤ sizeLine; decide, fun Z nZ => ?_⟩
      generalize g10 : L2.upd H11 Z _ = H12
      obtain ⟨s12, eZ⟩ := laid g10 nZ
      refine ⟨_, _, .lst (SqL.of (s12 _ _ eC3)) (dp_strs _), .lst (SqL.of eZ) .nil, shaped_strs _ oks, shaped_strs [] nofun, _, rfl, ?_⟩
      rw [eqv_nilS, List.isEmpty_map, filter_all]
      have s1012 := s11.trans s12
      have eK12 := s1012 _ _ eK10
      have hys12 := pr_same s1012 hys10
      have eW12 := s1012 _ _ eW10
      have eTF12 := s1012 _ _ eTF
      have s012 := s010.trans s1012
      clear s11 s12 s1012 nC3 nZ eC3 eZ s010 eK10 hys10 eW10 eTF
      cases hall : SL.all remL with
      | true =>
        rw [hall, Bool.true_and] at k
        refine iteT ⟨.ref Kn5, rfl, by show 0 ≤ sizeLine; decide, fun Z2 nZ2 => ?_⟩
        generalize g11 : L2.upd H12 Z2 _ = H13
        obtain ⟨s13, eZ2⟩ := laid g11 nZ2
        refine ⟨Kn5, Z2, ys, rfl, rfl, SqL.of (s13 _ _ eK12), SqL.of eZ2, _, rfl, ?_⟩
        rw [nilEmpty hys12, knW_ne]
        cases hwe : (wordsAll SL).isEmpty with
        | false =>
          rw [hwe] at k
          exact iteT ⟨_, rfl, _, rfl, by show 3 ≤ sizeLine; decide, fun T2 n2 => k _ T2 (s012.trans (s13.trans (same_new n2))) (fin_cut hF _ (s012.trans s13) n2)⟩
        | true =>
          rw [hwe] at k
          have eTF13 := s13 _ _ eTF12
          refine iteF ⟨by show 1 ≤ sizeLine; decide, fun T1 n1 => ⟨.ref TF, rfl, T1, TF, _, _, rfl, rfl, SqT.of upd_same, SqT.of (same_new n1 _ _ eTF13), by simp, by show 5 ≤ sizeLine; decide, fun z => (by cases z), fun _ T2 n2 => ?_⟩⟩
          exact k _ T2 ((s012.trans s13).trans ((same_new n1).trans (same_new n2))) (fin_cut hF _ ((s012.trans s13).trans (same_new n1)) n2)
      | false =>
        rw [hall, Bool.false_and] at k
        refine iteF ⟨by show 1 ≤ sizeLine; decide, fun T1 n1 => ?_⟩
        generalize g12 : L2.upd H12 T1 _ = H13
        obtain ⟨s13, eT1⟩ := laid g12 n1
        refine ⟨.ref TF, rfl, T1, TF, _, _, rfl, rfl, SqT.of eT1, SqT.of (s13 _ _ eTF12), by simp, by show 5 ≤ sizeLine; decide, fun z => (by cases z), fun _ T2 n2 => ?_⟩
        generalize g13 : L2.upd H13 T2 _ = H14
        obtain ⟨s14, eT2⟩ := laid g13 n2
        have s1214 := s13.trans s14
        refine ⟨.ref Wn, rfl, Wn, WL, rfl, s1214 _ _ eW12, hwl60, hwl, fun H15 s15 => ?_⟩
        have s1215 := s1214.trans s15
        refine ⟨.ref Kn5, rfl, Kn5, ys, knW (wordsAll SL), rfl, SqL.of (s1215 _ _ eK12), pr_same s1215 hys12, fun ys2 S hys2 nS => ?_⟩
        generalize g14 : L2.upd H15 S _ = H16
        obtain ⟨s16, eS⟩ := laid g14 nS
        refine ⟨_, rfl, by show 3 ≤ sizeLine; decide, fun T3 n3 => ?_⟩
        generalize g15 : L2.upd H16 T3 _ = H17
        obtain ⟨s17, eT3⟩ := laid g15 n3
        have s1517 := s16.trans s17
        refine ⟨T2, T3, _, _, rfl, rfl, SqT.of (s1517 _ _ (s15 _ _ eT2)), SqT.of eT3, by simp, by show 8 ≤ sizeLine; decide, fun z => (by cases z), fun _ T4 n4 => ?_⟩
        have s18 := same_new (o := .tup (([.str "example"] ++ [.str (rowsT SL), .str (rowsT WL), .int (num : Int), .int (n : Int)]) ++ [optV (errL WL), .ref S, .str (bareT SL [])])) n4
        have s015 := s012.trans s1215
        have s018 := s015.trans (s1517.trans s18)
        refine k _ T4 s018 ⟨S, ys2, fin_cut hF _ (s015.trans s1517) n4, ?_, pr_cut (s018 _ _ hF) (pr_same (s1517.trans s18) hys2)⟩
        rw [offH_at (ne_of_none (s015 _ _ hF) nS).symm]
        exact s18 _ _ (s17 _ _ eS)
end

/-! ### whole texts, as the law reads them -/
def pN (l : List Nat) : Bool := !bg (mk l) ">>>"
theorem run_cuts (ws : List (List Nat)) : ∀ (f i : Nat), ws.length - i ≤ f → cutsL ws i = cutsL ws (runL pN ws i) ∧ ∀ l, ws[runL pN ws i]? = some l → pN l = false
  | 0, i, h => by
    rw [runL_end (by omega)]
    exact ⟨rfl, fun l hl => by rw [List.getElem?_eq_none (by omega)] at hl; cases hl⟩
  | f + 1, i, h => by
    rcases Nat.lt_or_ge i ws.length with hi | hi
    · cases hp : pN ws[i] with
      | false =>
        rw [runL_stop hi hp]
        exact ⟨rfl, fun l hl => by rw [List.getElem?_eq_getElem hi] at hl; cases hl; exact hp⟩
      | true =>
        rw [runL_step hi hp]
        obtain ⟨h1, h2⟩ := run_cuts ws f (i + 1) (by omega)
        refine ⟨?_, h2⟩
        rw [← h1]
        conv => lhs; rw [cutsL]
        rw [dif_pos hi, if_neg (by unfold pN at hp; cases hb : bg (mk ws[i]) ">>>" <;> rw [hb] at hp <;> simp at hp ⊢)]
    · rw [runL_end hi]
      exact ⟨rfl, fun l hl => by rw [List.getElem?_eq_none hi] at hl; cases hl⟩
theorem while_run {c : TT} {tb : TS} {D : Ends} {H : Hp} (p : List Nat → Bool) (ws : List (List Nat)) (f : Nat → L2.St) (i : Nat)
    (hc : ∀ (j : Nat) (Q : Bool → Hp → Prop), Q (decide (j < ws.length) && p (ws.getD j [])) H → c (f j) H Q) (hb : ∀ (j : Nat) (D' : Ends), D'.nx (f (j + 1)) H → tb D' (f j) H) (k : D.nx (f (runL p ws i)) H) : tWhile c tb D (f i) H := by
  refine ⟨fun m σ H' => ∃ j, m = ws.length - j ∧ σ = f j ∧ H = H' ∧ runL p ws j = runL p ws i, ⟨_, i, rfl, rfl, rfl, rfl⟩, ?_⟩
  rintro m σ H' ⟨j, rfl, rfl, rfl, hj⟩
  refine hc j _ ?_
  rcases Nat.lt_or_ge j ws.length with hl | hl
  · rw [decide_eq_true hl, Bool.true_and, getD_some hl]
    cases hp : p ws[j] with
    | true =>
      refine iteT ⟨fun σ' H' => ∃ m', m' < ws.length - j ∧ ∃ j', m' = ws.length - j' ∧ σ' = f j' ∧ H = H' ∧ runL p ws j' = runL p ws i, fun _ _ h => h, hb j _ ⟨_, ?_, j + 1, rfl, rfl, rfl, ?_⟩⟩
      · omega
      · rw [← runL_step hl hp]
        exact hj
    | false =>
      rw [runL_stop hl hp] at hj
      rw [hj]
      exact iteF k
  · rw [decide_eq_false (by omega), Bool.false_and]
    rw [runL_end hl] at hj
    rw [hj]
    exact iteF k
theorem head3 (l : List Nat) (y : List Nat) (hy : y.length = 3) : decide (V.str (cutS (Txt.lstripChars (mk l) " ") none (some (3 : Int))) = V.str (mk y)) = bg (mk l) (mk y) := by
  unfold bg
  rw [lstrip_sp]
  have h := take_pre (l.drop (lead l)) y
  rw [mk_len, hy] at h
  exact h
/-- a stretch of text -/
theorem text_of {init : List (List Nat)} {last : List Nat} {b e : Nat} (h : b < e) (he : e ≤ (rowsOf init last).length) :
    joinL [] (((keptOf init last).drop b).take (e - b)) = joinL [10] (((rowsOf init last).drop b).take (e - b)) ++ if e = (rowsOf init last).length ∧ last ≠ [] then [] else [10] := by
  have key : ∀ ls : List (List Nat), ls ≠ [] → joinL [] (ls.map (· ++ [10])) = joinL [10] ls ++ [10] := fun ls hls => by
    rw [ten_last ls hls, join_ten]
  unfold keptOf rowsOf at *
  by_cases hl : last = []
  · subst hl
    have e0 : ifAny [] = [] := rfl
    rw [e0, List.append_nil] at he
    rw [e0, List.append_nil, List.append_nil, if_neg (by simp), ← List.map_drop, ← List.map_take]
    refine key _ fun z => ?_
    have := congrArg List.length z
    rw [List.length_take, List.length_drop, List.length_nil] at this
    omega
  · have e0 : ifAny last = [last] := by
      unfold ifAny
      rw [if_neg (by rw [List.isEmpty_iff]; exact hl)]
    rw [e0, List.length_append, List.length_singleton] at he
    rw [e0, List.length_append, List.length_singleton]
    by_cases hee : e = init.length + 1
    · rw [if_pos ⟨hee, hl⟩, List.append_nil, hee]
      have d1 : (init.map (· ++ [10]) ++ [last]).drop b = (init.drop b).map (· ++ [10]) ++ [last] := by
        rw [List.drop_append_of_le_length (by rw [List.length_map]; omega), List.map_drop]
      have d2 : (init ++ [last]).drop b = init.drop b ++ [last] := by
        rw [List.drop_append_of_le_length (by omega)]
      rw [d1, d2, List.take_of_length_le (by rw [List.length_append, List.length_map, List.length_drop]; show init.length - b + 1 ≤ _; omega), List.take_of_length_le (by rw [List.length_append, List.length_drop]; show init.length - b + 1 ≤ _; omega)]
      generalize init.drop b = x
      induction x with
      | nil => rfl
      | cons a r ih =>
        rw [List.map_cons, List.cons_append, List.cons_append, joinL_flat, joinL_more _ _ (by simp), ih, List.append_assoc]
    · rw [if_neg (fun z => hee z.1)]
      have d1 : ((init.map (· ++ [10]) ++ [last]).drop b).take (e - b) = ((init.drop b).take (e - b)).map (· ++ [10]) := by
        rw [List.drop_append_of_le_length (by rw [List.length_map]; omega), List.take_append_of_le_length (by rw [List.length_drop, List.length_map]; omega), List.map_take, List.map_drop]
      have d2 : ((init ++ [last]).drop b).take (e - b) = (init.drop b).take (e - b) := by
        rw [List.drop_append_of_le_length (by omega), List.take_append_of_le_length (by rw [List.length_drop]; omega)]
      rw [d1, d2]
      refine key _ fun z => ?_
      have := congrArg List.length z
      rw [List.length_take, List.length_drop, List.length_nil] at this
      omega
/-- a cut's piece as data -/
def pdOf (rows : List (List Nat)) (c : Nat × Nat × Nat) : PD :=
  if (srcL rows c.1 c.2.1 (ldAt rows c.1 + 4)).all remL = true then .com (rowsT (srcL rows c.1 c.2.1 (ldAt rows c.1 + 4))) (rowsT (srcL rows c.2.1 c.2.2 (ldAt rows c.1))) ((c.1 + 1 : Nat) : Int) (ldAt rows c.1 : Int)
  else .ex (rowsT (srcL rows c.1 c.2.1 (ldAt rows c.1 + 4))) (rowsT (srcL rows c.2.1 c.2.2 (ldAt rows c.1))) ((c.1 + 1 : Nat) : Int) (ldAt rows c.1 : Int) (optV (errL (srcL rows c.2.1 c.2.2 (ldAt rows c.1)))) (srtP (knW (wordsAll (srcL rows c.1 c.2.1 (ldAt rows c.1 + 4))))) (bareT (srcL rows c.1 c.2.1 (ldAt rows c.1 + 4)) [])
def toPD (rows : List (List Nat)) : Str ⊕ (Nat × Nat × Nat) → PD
  | .inl x => .txt x
  | .inr c => pdOf rows c
/-- a cut's rows, alone and within the text -/
theorem cut_facts {rows : List (List Nat)} {a m e : Nat} (h : WkCut rows a m e) : ((rows.drop a).take (e - a)).length = e - a ∧ lead (((rows.drop a).take (e - a)).getD 0 []) = ldAt rows a ∧ badR rows a m e (ldAt rows a) = (badR ((rows.drop a).take (e - a)) 0 (m - a) (e - a) (ldAt rows a)).map (offF a) ∧ ∀ n, srcL rows a m n = rdSl ((rows.drop a).take (e - a)) (m - a) n ∧ srcL rows m e n = rdWl ((rows.drop a).take (e - a)) (m - a) n := by
  have h1 := h.am
  have h2 := h.me
  have h3 := h.ew
  have hld : ((rows.drop a).take (e - a)).getD 0 [] = rows.getD a [] := by
    rw [List.getD_eq_getElem?_getD, List.getD_eq_getElem?_getD, List.getElem?_take, if_pos (by omega), List.getElem?_drop, Nat.add_zero]
  generalize hB : (rows.drop a).take (e - a) = B at hld ⊢
  have hBl : B.length = e - a := by
    rw [← hB, List.length_take, List.length_drop]
    omega
  have hr : rows.take a ++ (B ++ rows.drop e) = rows := by
    have : B ++ rows.drop e = rows.drop a := by
      rw [← hB, show e = a + (e - a) by omega, ← List.drop_drop, show a + (e - a) - a = e - a by omega, List.take_append_drop]
    rw [this, List.take_append_drop]
  have hl : (rows.take a).length = a := by
    rw [List.length_take]
    omega
  have off := badR_off (rows := B) (pr := rows.take a) (post := rows.drop e) (m := m - a) (e := e - a) (n := ldAt rows a) (by omega) (by omega) hBl.symm
  rw [hr, hl, show a + (m - a) = m by omega, show a + (e - a) = e by omega] at off
  have hB2 : B = B.take (m - a) ++ B.drop (m - a) := (List.take_append_drop _ _).symm
  have l1 : (B.take (m - a)).length = m - a := by rw [List.length_take]; omega
  have l2 : (B.drop (m - a)).length = e - m := by rw [List.length_drop]; omega
  refine ⟨hBl, by rw [hld]; rfl, off, fun n => ?_⟩
  have s := srcL_at (rows.take a) (B.take (m - a)) (B.drop (m - a)) (rows.drop e) n
  rw [← hB2, hr, hl, l1, l2, show a + (m - a) = m by omega, show m + (e - m) = e by omega] at s
  exact s
/-- a cut, read alone and within its text -/
theorem one_cut {rows : List (List Nat)} {a m e : Nat} (h : WkCut rows a m e) : rdOne ((rows.drop a).take (e - a)) (m - a) (a + 1) (ldAt rows a) = match badC rows (a, m, e) with
    | some f => .inl f
    | none => .inr (pdOf rows (a, m, e)) := by
  have h1 := h.am
  have h2 := h.me
  have h3 := h.ew
  generalize hB : (rows.drop a).take (e - a) = B
  have hBl : B.length = e - a := by
    rw [← hB, List.length_take, List.length_drop]
    omega
  have hr : rows.take a ++ (B ++ rows.drop e) = rows := by
    have : B ++ rows.drop e = rows.drop a := by
      rw [← hB, show e = a + (e - a) by omega, ← List.drop_drop, show a + (e - a) - a = e - a by omega, List.take_append_drop]
    rw [this, List.take_append_drop]
  have hl : (rows.take a).length = a := by
    rw [List.length_take]
    omega
  have off := badR_off (rows := B) (pr := rows.take a) (post := rows.drop e) (m := m - a) (e := e - a) (n := ldAt rows a) (by omega) (by omega) hBl.symm
  rw [hr, hl, show a + (m - a) = m by omega, show a + (e - a) = e by omega] at off
  have hB2 : B = B.take (m - a) ++ B.drop (m - a) := (List.take_append_drop _ _).symm
  have l1 : (B.take (m - a)).length = m - a := by rw [List.length_take]; omega
  have l2 : (B.drop (m - a)).length = e - m := by rw [List.length_drop]; omega
  have sr : ∀ n, srcL rows a m n = rdSl B (m - a) n ∧ srcL rows m e n = rdWl B (m - a) n := fun n => by
    have s := srcL_at (rows.take a) (B.take (m - a)) (B.drop (m - a)) (rows.drop e) n
    rw [← hB2, hr, hl, l1, l2, show a + (m - a) = m by omega, show m + (e - m) = e by omega] at s
    exact s
  unfold badC pdOf rdOne
  dsimp only
  rw [off, hBl, (sr _).1, (sr _).2]
  cases badR B 0 (m - a) (e - a) (ldAt rows a) with
  | some f =>
    show Sum.inl _ = Sum.inl _
    congr 1
    show (((a + 1 : Nat) : Int) + f.1, f.2.1, f.2.2) = (((a + f.1 : Nat) : Int) + 1, f.2.1, f.2.2)
    congr 1
    omega
  | none =>
    dsimp only [Option.map]
    cases badP (rdSl B (m - a) (ldAt rows a + 4)) with
    | some rf =>
      show Sum.inl _ = Sum.inl _
      congr 1
    | none => rfl
structure RdOk (x : Str) (init : List (List Nat)) (last : List Nat) : Prop where
  eq : tl x = joinL [10] (init ++ [last])
  row : ∀ l ∈ init ++ [last], okc l = true ∧ l.length ≤ 60
  few : init.length ≤ 18
  cut : ∀ c ∈ cutsL (rowsOf init last) 0, badR (rowsOf init last) c.1 c.2.1 c.2.2 (ldAt (rowsOf init last) c.1) = none → ∀ r ∈ srcL (rowsOf init last) c.1 c.2.1 (ldAt (rowsOf init last) c.1 + 4), RowOk r
theorem cut_rows {init : List (List Nat)} {last : List Nat} : (init ++ [last]).take ((init ++ [last]).length - (if last = [] then 1 else 0)) = rowsOf init last := by
  unfold rowsOf ifAny
  by_cases h : last = []
  · rw [if_pos h, if_pos (by rw [h]; rfl), List.length_append, List.append_nil]
    show (init ++ [last]).take (init.length + 1 - 1) = init
    rw [Nat.add_sub_cancel, List.take_left' rfl]
  · rw [if_neg h, if_neg (by rw [List.isEmpty_iff]; exact h), Nat.sub_zero, List.take_length]
def pdsL (init : List (List Nat)) (last : List Nat) : List PD := (piecesL (keptOf init last) 0 (cutsL (rowsOf init last) 0)).map (toPD (rowsOf init last))
theorem joinL_last (S : List Nat) : ∀ (ls : List (List Nat)) (y : List Nat), ∃ m, joinL S (ls ++ [y]) = m ++ y
  | [], y => ⟨[], rfl⟩
  | a :: r, y => by
    obtain ⟨m, e⟩ := joinL_last S r y
    rw [List.cons_append, joinL_more _ _ (by simp), e]
    exact ⟨a ++ (S ++ m), by simp⟩
theorem last_sign {x : Str} {init : List (List Nat)} {last : List Nat} (e : tl x = joinL [10] (init ++ [last])) (h10 : (10 : Nat) ∉ last) (hne : rowsOf init last ≠ []) : decide (V.str (cutS x (some (-1)) none) = V.str "\n") = decide (last = []) := by
  have ex : x = mk (tl x) := ext_tl rfl
  rcases nil_or_snoc last with rfl | ⟨l', c, rfl⟩
  · have hi : init ≠ [] := fun z => by
      rw [z] at hne
      exact hne rfl
    rw [← ten_last init hi] at e
    rw [ex, e, cut_end, nl10, decide_eq_true rfl, decide_eq_true rfl]
  · obtain ⟨m, em⟩ := joinL_last [10] init (l' ++ [c])
    rw [em, ← List.append_assoc] at e
    rw [ex, e, cut_end, nl10]
    have hc : c ≠ 10 := fun z => h10 (by rw [z]; simp)
    rw [decide_eq_false (by
      intro z
      have : [c] = [10] := congrArg (fun v => match v with | V.str y => tl y | _ => []) z
      exact hc (List.head_eq_of_cons_eq this)), decide_eq_false (by simp)]
theorem badAll_app {R : List (List Nat)} {cs r : List (Nat × Nat × Nat)} (h : badAll R cs = none) : badAll R (cs ++ r) = badAll R r := by
  induction cs with
  | nil => rfl
  | cons c t ih =>
    have h : (match badC R c with | some x => some x | none => badAll R t) = none := h
    show (match badC R c with | some x => some x | none => badAll R (t ++ r)) = _
    cases hb : badC R c with
    | some x => rw [hb] at h; cases h
    | none => rw [hb] at h; exact ih h
theorem pd_head {R : List (List Nat)} {H : Hp} {T : Addr} {c : Nat × Nat × Nat} (h : PdAt H T (pdOf R c)) : ∃ (s : Str) (r : List V), H T = some (.tup (.str s :: r)) ∧ inV (.str s) [.str "example", .str "comment"] = true := by
  unfold pdOf at h
  split at h
  · exact ⟨"comment", _, h, by decide +kernel⟩
  · obtain ⟨L, ys, h1, _⟩ := h
    exact ⟨"example", _, h1, by decide +kernel⟩
theorem PdAt.off {H H' : Hp} {F : Addr} (s : ∀ b o, b ≠ F → H b = some o → H' b = some o) {ts : List Addr} {ps : List PD} (h : Paired (PdAt (offH F H)) ts ps) : Paired (PdAt (offH F H')) ts ps := by
  refine paired_imp (fun t p k => k.same fun b o e => ?_) h
  have hb : b ≠ F := fun z => by
    rw [z] at e
    unfold offH at e
    rw [if_pos rfl] at e
    cases e
  rw [offH_at hb] at e ⊢
  exact s b o hb e
section
variable {P : Program} {w : World} {K : PySem.W.Frag} {mg : Str → Option Value} {base : Heap}
def sp_law_read : Sp := fun vs H Q _ => ∃ (x : Str) (init : List (List Nat)) (last : List Nat), vs = [.str x] ∧ RdOk x init last ∧
  (badAll (rowsOf init last) (cutsL (rowsOf init last) 0) = none → ∀ (H' : Hp) (T L : Addr) (ts : List Addr), Same H H' → H' T = some (.tup [.str "told", .ref L]) → H' L = some (.lst (ts.map V.ref)) → Paired (PdAt H') ts (pdsL init last) → Q (.ref T) H') ∧
  (∀ n r f, badAll (rowsOf init last) (cutsL (rowsOf init last) 0) = some (n, r, f) → ∀ (H' : Hp) (T : Addr), Same H H' → H' T = some (.tup [.int n, .str r, .str f]) → Q (.ref T) H')
theorem ok_law_read {f : Addr} {fd : FuncData} {dvs : List V} (F : Fn K "_law_read" s_law_read dvs f fd) (O_law_one_read : Own P w K mg base "_law_one_read" 2 ["lines", "many", "number"] [] (sp_law_one_read)) (m_int : mg "int" = none) (m_len : mg "len" = none) : FnOk P w K mg base CX0 3 f fd ["text"] (sp_law_read) := by
  refine Fn.okN F sc_law_read (fun vs H Q E h => ?_) (fun cdv A outer s H vs Q E hr h => ?_)
  · obtain ⟨_, _, _, rfl, _⟩ := h
    rfl
  · obtain ⟨x, init, last, rfl, rd, k, kE⟩ := h
    refine ⟨_, (pss_cons (ps_par3 (i := 1) (j := 2) (l := 3) (by rfl) sc_law_read.nd rfl rfl rfl (by decide) (by decide) (by decide) rfl rfl rfl (pa_cons (pe_m1 PySem.F.slot_str_split PySem.F.type_str_split mt_split (pv 0) pe_str) (pa_cons (pe_lst pa_nil) (pa_cons pe_int pa_nil))) (by rfl))
      (pss_cons (ps_set (i := 1) sc_law_read.nd rfl (.inl rfl) (pe_slice sl_list (pv 1) po_none (po_some (pe_op op_sub (pe_callB call_len_seq (by rfl) m_len PySem.boot_len (pa_cons (pv 1) pa_nil)) (pe_callTy call_int1 (by rfl) m_int (by decide +kernel) (pa_cons (pe_cmpR op_eq (pe_ix ix_list (pv 1) (pe_un un_neg pe_int) (fun _ _ => rfl)) pe_str (nomark _)) pa_nil))))))
      (pss_cons (ps_while PassesOwn.never (pt_cmpR op_lt (pv 3) (pe_callB call_len_seq (by rfl) m_len PySem.boot_len (pa_cons (pv 1) pa_nil)) (nomark _))
          (pss_cons (ps_set (i := 4) sc_law_read.nd rfl (.inl rfl) (pv 3))
            (pss_cons (ps_while PassesOwn.never (PW.pt (pw_and (pt_cmpR op_lt (pv 3) (pe_callB call_len_seq (by rfl) m_len PySem.boot_len (pa_cons (pv 1) pa_nil)) (nomark _)) (pw_and1 (pt_cmpR op_ne (pe_slice sl_str (pe_m1 PySem.F.slot_str_lstrip PySem.F.type_str_lstrip mt_lstripChars (pe_ix ix_list (pv 1) (pv 3) (fun _ _ => rfl)) pe_str) po_none (po_some pe_int)) pe_str (nomark _)))))
                (pss_one (ps_set (i := 3) sc_law_read.nd rfl (.inl rfl) (pe_op op_add (pv 3) pe_int))))
            (pss_cut (ps_if (pt_cmpR op_gt (pv 3) (pv 4) (nomark _))
                (pss_cut (ps_set (i := 5) sc_law_read.nd rfl (.inl rfl) (pe_and (pe_cmpR op_eq (pv 3) (pe_callB call_len_seq (by rfl) m_len PySem.boot_len (pa_cons (pv 1) pa_nil)) (nomark _)) (pe_one (pe_cmpR op_ne (pe_slice sl_str (pv 0) (po_some (pe_un un_neg pe_int)) po_none) pe_str (nomark _)))))
                  (pss_one (ps_expr (pe_bm PySem.F.plainAttrs_list PySem.F.slot_list_append PySem.F.type_list_append mt_append (pv 2) (pa_cons (pe_tup (pa_cons pe_str (pa_cons (pe_op op_add_str (pe_m1 PySem.F.slot_str_join PySem.F.type_str_join mt_join pe_str (pe_slice sl_list (pv 1) (po_some (pv 4)) (po_some (pv 3)))) (pe_op op_repS pe_str (pe_callTy call_int1 (by rfl) m_int (by decide +kernel) (pa_cons (pe_not (pv 5)) pa_nil)))) pa_nil))) pa_nil)))))
                pss_nil)
            (pss_cons (ps_set (i := 4) sc_law_read.nd rfl (.inl rfl) (pv 3))
            (pss_cons (ps_set (i := 3) sc_law_read.nd rfl (.inl rfl) (pe_op op_add (pv 3) pe_int))
            (pss_cons (ps_while PassesOwn.never (PW.pt (pw_and (pt_cmpR op_lt (pv 3) (pe_callB call_len_seq (by rfl) m_len PySem.boot_len (pa_cons (pv 1) pa_nil)) (nomark _)) (pw_and1 (pt_cmpR op_eq (pe_slice sl_str (pe_m1 PySem.F.slot_str_lstrip PySem.F.type_str_lstrip mt_lstripChars (pe_ix ix_list (pv 1) (pv 3) (fun _ _ => rfl)) pe_str) po_none (po_some pe_int)) pe_str (nomark _)))))
                (pss_one (ps_set (i := 3) sc_law_read.nd rfl (.inl rfl) (pe_op op_add (pv 3) pe_int))))
            (pss_cons (ps_set (i := 6) sc_law_read.nd rfl (.inl rfl) (pe_op op_sub (pv 3) (pv 4)))
            (pss_cons (ps_while PassesOwn.never (PW.pt (pw_and (pt_cmpR op_lt (pv 3) (pe_callB call_len_seq (by rfl) m_len PySem.boot_len (pa_cons (pv 1) pa_nil)) (nomark _)) (pw_and (pt_cmpR op_ne (pe_m1 PySem.F.slot_str_strip PySem.F.type_str_strip mt_stripChars (pe_ix ix_list (pv 1) (pv 3) (fun _ _ => rfl)) pe_str) pe_str (nomark _)) (pw_and1 (pt_cmpR op_ne (pe_slice sl_str (pe_m1 PySem.F.slot_str_lstrip PySem.F.type_str_lstrip mt_lstripChars (pe_ix ix_list (pv 1) (pv 3) (fun _ _ => rfl)) pe_str) po_none (po_some pe_int)) pe_str (nomark _))))))
                (pss_one (ps_set (i := 3) sc_law_read.nd rfl (.inl rfl) (pe_op op_add (pv 3) pe_int))))
            (pss_one (ps_if (pt_cmpR op_lt (pv 4) (pe_callB call_len_seq (by rfl) m_len PySem.boot_len (pa_cons (pv 1) pa_nil)) (nomark _))
                (pss_cons (ps_set (i := 7) sc_law_read.nd rfl (.inl rfl) (pe_own O_law_one_read (hr.mono (by decide)) (by rfl) (pa_cons (pe_slice sl_list (pv 1) (po_some (pv 4)) (po_some (pv 3))) (pa_cons (pv 6) (pa_cons (pe_op op_add (pv 4) pe_int) pa_nil)))))
                  (pss_cons (ps_if (pt_cmpR op_notIn_seq (pe_ix ix_tup (pv 7) pe_int (fun _ _ => rfl)) (pe_tup (pa_cons pe_str (pa_cons pe_str pa_nil))) rfl)
                      (pss_one (ps_ret (pv 7)))
                      pss_nil)
                  (pss_one (ps_expr (pe_bm PySem.F.plainAttrs_list PySem.F.slot_list_append PySem.F.type_list_append mt_append (pv 2) (pa_cons (pv 7) pa_nil))))))
                pss_nil)))))))))))
      (pss_one (ps_ret (pe_tup (pa_cons pe_str (pa_cons (pv 2) pa_nil)))))))), ?_⟩
    have h10 : ∀ l ∈ init ++ [last], (10 : Nat) ∉ l := fun l hl h => by
      have h1 := (rd.row l hl).1
      unfold okc at h1
      have := List.all_eq_true.mp h1 10 h
      revert this
      decide
    have eS := split_join rd.eq (by simp) h10
    have few := rd.few
    have lx : x.length ≤ 2000 := by
      rw [len_tl, rd.eq]
      have h1 := joinL_len [10] (ps := init ++ [last]) (by simp)
      have h2 := sum_le_of (b := 60) (ls := init ++ [last]) fun l hl => (rd.row l hl).2
      rw [List.length_append] at h1 h2
      have h3 : ([last] : List (List Nat)).length = 1 := rfl
      have h4 : ([10] : List Nat).length = 1 := rfl
      rw [h3, h4] at h1
      rw [h3] at h2
      omega
    refine ⟨.str x, rfl, ⟨_, rfl⟩, _, "\n", rfl, rfl, by decide +kernel, ?_, fun L0 nL0 => ?_⟩
    · exact line_of (by omega)
    rw [eS]
    generalize g1 : L2.upd H L0 _ = H1
    obtain ⟨s1, eL0⟩ := laid g1 nL0
    refine ⟨by show 0 ≤ sizeLine; decide, fun F nF => ?_⟩
    generalize g2 : L2.upd H1 F _ = H2
    obtain ⟨s2, eF⟩ := laid g2 nF
    have eL02 := s2 _ _ eL0
    have hlast : atI (((init ++ [last]).map mk).map V.str) (-1) = some (.str (mk last)) := by
      rw [List.map_append, List.map_append]
      exact atI_last _ _
    refine ⟨_, _, _, rfl, .ref L0, rfl, .ref L0, rfl, L0, _, rfl, .inl (SqL.of eL02), .ref L0, rfl, 1, rfl, L0, _, -1, .str (mk last), rfl, rfl, SqL.of eL02, hlast, rfl, .inr ⟨_, rfl, _, _, rfl, rfl, _, rfl, L0, _, rfl, SqL.of eL02, fun L nL => ?_⟩⟩
    have hcut : cutV (((init ++ [last]).map mk).map V.str) none (some (((((init ++ [last]).map mk).map V.str).length : Int) - (if decide (V.str (mk last) = V.str "") = true then 1 else 0))) = strV (rowsOf init last) := by
      have e0 : ("" : Str) = mk [] := ext_tl (by decide +kernel)
      have hl : (((init ++ [last]).map mk).map V.str).length = init.length + 1 := by
        rw [List.length_map, List.length_map, List.length_append]
        rfl
      rw [hl]
      have hc := cut_rows (init := init) (last := last)
      rw [List.length_append] at hc
      by_cases h : last = []
      · rw [decide_eq_true (by rw [h, e0]), if_pos rfl, show ((init.length + 1 : Nat) : Int) - 1 = (init.length : Nat) by omega]
        rw [if_pos h] at hc
        show cutV (strV (init ++ [last])) none (some ((init.length : Nat) : Int)) = _
        rw [cutV_to, strV_take]
        exact congrArg strV hc
      · have hd : decide (V.str (mk last) = V.str "") = false := decide_eq_false fun z => by
          rw [e0] at z
          exact h (congrArg (fun v => match v with | V.str y => tl y | _ => []) z)
        rw [hd, if_neg Bool.false_ne_true, Int.sub_zero]
        rw [if_neg h] at hc
        show cutV (strV (init ++ [last])) none (some ((init.length + 1 : Nat) : Int)) = _
        rw [cutV_to, strV_take]
        exact congrArg strV hc
    generalize g3 : L2.upd H2 L _ = H3
    obtain ⟨s3, eL⟩ := laid g3 nL
    have eL : H3 L = some (.lst (strV (rowsOf init last))) := eL.trans (congrArg (fun z => some (HO.lst z)) hcut)
    have eF3 := s3 _ _ eF
    have nFH : H F = none := s1.free nF
    have s03 : Same H H3 := (s1.trans s2).trans s3
    have hLF : L ≠ F := fun z => by
      rw [z, eF] at nL
      cases nL
    have hrn : (rowsOf init last).length ≤ 19 := by
      unfold rowsOf ifAny
      rw [List.length_append]
      split
      · rw [List.length_nil]
        omega
      · rw [List.length_singleton]
        omega
    have hrow : ∀ l ∈ rowsOf init last, okc l = true ∧ l.length ≤ 60 := fun l hl => rd.row l (rows_mem hl)
    have zR : ∀ l ∈ rowsOf init last, (mk l).length ≤ sizeLine := fun l hl => by
      have := (hrow l hl).2
      rw [mk_len]
      exact line_of (by omega)
    have hkl : (keptOf init last).length = (rowsOf init last).length := by
      unfold keptOf rowsOf
      rw [List.length_append, List.length_append, List.length_map]
    have hcutR := rd.cut
    have htxt := fun (b e : Nat) => text_of (init := init) (last := last) (b := b) (e := e)
    have hsig := last_sign rd.eq (h10 last (by simp))
    unfold pdsL at k
    clear hcut hlast nL0 nF nL eL0 eL02 eF
    generalize hR : rowsOf init last = R at *
    generalize hKp : keptOf init last = kept at *
    refine ⟨fun mm σ H4 => ∃ (i : Nat) (v4 v5 v6 v7 : Option V) (ts : List Addr) (ps : List (Str ⊕ (Nat × Nat × Nat))), mm = R.length + 1 - i ∧ σ = [some (.str x), some (.ref L), some (.ref F), some (.int (i : Int)), v4, v5, v6, v7] ∧ H4 L = some (.lst (strV R)) ∧ H4 F = some (.lst (ts.map V.ref)) ∧ Paired (PdAt (offH F H4)) ts (ps.map (toPD R)) ∧ ts.length ≤ 2 * i ∧ Same H H4 ∧
      ((i ≤ R.length ∧ ∃ cs, cutsL R 0 = cs ++ cutsL R i ∧ badAll R cs = none ∧ ∀ rest, piecesL kept 0 (cs ++ rest) = ps ++ piecesL kept i rest) ∨ (i = R.length + 1 ∧ badAll R (cutsL R 0) = none ∧ ps = piecesL kept 0 (cutsL R 0))), ⟨_, 0, none, none, none, none, [], [], rfl, rfl, eL, eF3, .nil, Nat.le_refl _, s03, .inl ⟨Nat.zero_le _, [], rfl, rfl, fun rest => rfl⟩⟩, ?_⟩
    rintro mm σ H4 ⟨i, v4, v5, v6, v7, ts, ps, rfl, rfl, eL4, eF4, hts, htl, s4, hJ⟩
    refine ⟨.int (i : Int), rfl, .ref L, rfl, L, _, rfl, .inl (SqL.of eL4), _, _, rfl, rfl, _, rfl, ?_⟩
    rw [strV_len]
    rcases Nat.lt_or_ge i R.length with hi | hi
    · rcases hJ with ⟨_, cs, hcs, hbs, hps⟩ | ⟨z, _⟩
      · rw [decide_eq_true (by omega)]
        refine iteT ⟨fun σ' H' => ∃ m', m' < R.length + 1 - i ∧ ∃ (i : Nat) (v4 v5 v6 v7 : Option V) (ts : List Addr) (ps : List (Str ⊕ (Nat × Nat × Nat))), m' = R.length + 1 - i ∧ σ' = [some (.str x), some (.ref L), some (.ref F), some (.int (i : Int)), v4, v5, v6, v7] ∧ H' L = some (.lst (strV R)) ∧ H' F = some (.lst (ts.map V.ref)) ∧ Paired (PdAt (offH F H')) ts (ps.map (toPD R)) ∧ ts.length ≤ 2 * i ∧ Same H H' ∧
          ((i ≤ R.length ∧ ∃ cs, cutsL R 0 = cs ++ cutsL R i ∧ badAll R cs = none ∧ ∀ rest, piecesL kept 0 (cs ++ rest) = ps ++ piecesL kept i rest) ∨ (i = R.length + 1 ∧ badAll R (cutsL R 0) = none ∧ ps = piecesL kept 0 (cutsL R 0))), fun _ _ h => h, _, rfl, ?_⟩
        refine while_run pN R (fun j => [some (.str x), some (.ref L), some (.ref F), some (.int (j : Int)), some (.int (i : Int)), v5, v6, v7]) i (fun j Qb hQ => ?_) (fun j D' h => ⟨_, rfl, _, _, rfl, rfl, h⟩) ?_
        · refine ⟨.int (j : Int), rfl, .ref L, rfl, L, _, rfl, .inl (SqL.of eL4), _, _, rfl, rfl, _, rfl, ?_⟩
          rw [strV_len]
          rcases Nat.lt_or_ge j R.length with hj | hj
          · obtain ⟨l, hl⟩ : ∃ l, R[j]? = some l := ⟨_, List.getElem?_eq_getElem hj⟩
            have zl := zR l (List.mem_of_getElem? hl)
            rw [decide_eq_true (by omega)]
            rw [decide_eq_true hj, Bool.true_and, getD_at hl] at hQ
            refine iteT ⟨.ref L, rfl, .int (j : Int), rfl, L, _, _, .str (mk l), rfl, rfl, SqL.of eL4, atI_nat (strV_get _ hl), ⟨_, rfl⟩, _, " ", rfl, rfl, zl, 3, rfl, _, rfl, Nat.le_trans (len_stripBy _ _ _ _) zl, rfl, _, rfl, ?_⟩
            show Qb (!decide (V.str (cutS (Txt.lstripChars (mk l) " ") none (some 3)) = V.str ">>>")) H4
            rw [gt3, head3 _ _ rfl, ← gt3]
            exact hQ
          · rw [decide_eq_false (by omega)]
            rw [decide_eq_false (by omega), Bool.false_and] at hQ
            exact iteF hQ
        obtain ⟨rc1, rc2⟩ := run_cuts R _ i (Nat.le_refl _)
        have ra := runL_ge pN R i
        have ra2 : runL pN R i ≤ R.length := runL_le (Nat.le_of_lt hi)
        generalize runL pN R i = a at rc1 rc2 ra ra2 ⊢
        refine ⟨fun σ' H5 => ∃ (v5 : Option V) (ts' : List Addr), σ' = [some (.str x), some (.ref L), some (.ref F), some (.int (a : Int)), some (.int (i : Int)), v5, v6, v7] ∧ H5 L = some (.lst (strV R)) ∧ H5 F = some (.lst (ts'.map V.ref)) ∧ Paired (PdAt (offH F H5)) ts' ((ps ++ gapP kept i a).map (toPD R)) ∧ ts'.length ≤ 2 * i + (if i < a then 1 else 0) ∧ Same H H5, ?_, ?_⟩
        · refine ⟨_, rfl, _, rfl, _, _, rfl, rfl, _, rfl, ?_⟩
          show ite (decide ((i : Int) < (a : Int)) = true) _ _
          by_cases hia : i < a
          · rw [decide_eq_true (by omega)]
            refine iteT ?_
            have hR0 : R ≠ [] := fun z => by
              rw [z] at hi
              exact absurd hi (Nat.not_lt_zero _)
            refine ⟨fun σ' H5 => H4 = H5 ∧ σ' = [some (.str x), some (.ref L), some (.ref F), some (.int (a : Int)), some (.int (i : Int)), some (.bl (decide (a = R.length ∧ last ≠ []))), v6, v7], ?_, ?_⟩
            · refine ⟨_, rfl, .ref L, rfl, L, _, rfl, .inl (SqL.of eL4), rfl, _, rfl, ?_⟩
              rw [strV_len]
              by_cases hal : a = R.length
              · rw [hal, decide_eq_true rfl]
                refine iteT ⟨_, rfl, 1, rfl, _, rfl, x, rfl, line_of (by omega), rfl, ?_⟩
                show gName 5 (V.bl (!decide (V.str (cutS x (some (-1)) none) = V.str "\n"))) _ _ _
                rw [hsig hR0]
                refine ⟨rfl, ?_⟩
                by_cases hl : last = []
                · rw [decide_eq_true hl, decide_eq_false (by simp [hl])]
                  rfl
                · rw [decide_eq_false hl, decide_eq_true ⟨rfl, hl⟩]
                  rfl
              · rw [decide_eq_false (by simp; omega)]
                refine iteF ⟨rfl, ?_⟩
                rw [decide_eq_false (fun z => hal z.1)]
                rfl
            · rintro σ H5 ⟨rfl, rfl⟩
              refine ⟨.ref F, rfl, .inl ⟨rfl, _, SqL.of eF4⟩, ⟨_, rfl⟩, .ref L, rfl, .int (i : Int), rfl, _, rfl, .int (a : Int), rfl, _, rfl, L, _, rfl, SqL.of eL4, fun S nS => ?_⟩
              rw [cutV_seg _ _ _ ra (by rw [strV_len]; exact ra2), strV_drop, strV_take]
              generalize g5 : L2.upd H4 S _ = H6
              obtain ⟨s6, eS6⟩ := laid g5 nS
              have hseg : ∀ l ∈ (R.drop i).take (a - i), l.length ≤ 60 := fun l hl => (hrow l (List.mem_of_mem_drop (List.mem_of_mem_take hl))).2
              have hsl : ((R.drop i).take (a - i)).length ≤ 19 := by
                rw [List.length_take, List.length_drop]
                omega
              have hne : (R.drop i).take (a - i) ≠ [] := fun z => by
                have := congrArg List.length z
                rw [List.length_take, List.length_drop, List.length_nil] at this
                omega
              have hjl : (joinL [10] ((R.drop i).take (a - i))).length ≤ 2000 := by
                have h1 := joinL_len [10] hne
                have h2 := sum_le_of (b := 60) hseg
                have h4 : ([10] : List Nat).length = 1 := rfl
                rw [h4] at h1
                omega
              have ht := htxt i a hia ra2
              generalize (R.drop i).take (a - i) = G at *
              have hjoin : Txt.join "\n" (G.map mk) = mk (joinL [10] G) := by
                rw [nl10, join_mk]
              refine ⟨_, S, G.map mk, rfl, rfl, .inl (SqL.of eS6), ?_, ?_⟩
              · have h2 := sum_le_of (b := 60) hseg
                have h3 : ((G.map mk).map (·.length)).sum = (G.map (·.length)).sum := by
                  rw [List.map_map]
                  congr 1
                rw [h3, List.length_map]
                have h4 : ("\n" : Str).length = 1 := rfl
                rw [h4]
                omega
              rw [hjoin]
              refine ⟨_, rfl, _, rfl, .inr ⟨_, rfl, _, _, rfl, rfl, mulOk01 (by cases decide (a = R.length ∧ last ≠ []) <;> simp), _, _, rfl, rfl, ?_, by show 2 ≤ sizeLine; decide, fun T nT => ?_⟩⟩
              · have hml : ∀ b : Bool, (Txt.mul "\n" (if (!b) = true then 1 else 0)).length ≤ 1 := fun b => by
                  cases b with
                  | false => rw [if_pos (by decide), nl10, mul_1, mk_len]; exact Nat.le_refl _
                  | true => rw [if_neg (by decide), mul_0, mk_len]; exact Nat.zero_le _
                have := hml (decide (a = R.length ∧ last ≠ []))
                rw [mk_len]
                exact line_of (by omega)
              have htx : mk (joinL [10] G) ++ Txt.mul "\n" (if (!decide (a = R.length ∧ last ≠ [])) = true then 1 else 0) = mk (joinL [] ((kept.drop i).take (a - i))) := by
                rw [ht, nl10]
                by_cases hc : a = R.length ∧ last ≠ []
                · rw [decide_eq_true hc, if_neg (by decide), mul_0, if_pos hc, app_mk]
                · rw [decide_eq_false hc, if_pos (by decide), mul_1, if_neg hc, app_mk]
              rw [htx]
              have sT := same_new (o := .tup [.str "text", .str (mk (joinL [] ((kept.drop i).take (a - i))))]) nT
              have eF6 := sT _ _ (s6 _ _ eF4)
              have eL6 := sT _ _ (s6 _ _ eL4)
              have TF : T ≠ F := (ne_of_none (s6 _ _ eF4) nT).symm
              have s46 := s6.trans sT
              have eT := upd_same (H := H6) (a := T) (o := .tup [.str "text", .str (mk (joinL [] ((kept.drop i).take (a - i))))])
              generalize L2.upd H6 T (.tup [.str "text", .str (mk (joinL [] ((kept.drop i).take (a - i))))]) = H7 at sT eF6 eL6 s46 eT ⊢
              refine ⟨F, ts.map V.ref, _, rfl, rfl, eF6, ?_, _, ts ++ [T], rfl, ?_, ?_, ?_, ?_, ?_⟩
              · rw [List.length_map]
                exact Nat.lt_of_le_of_lt (show ts.length ≤ 100 by omega) (by decide)
              · rw [upd_ne hLF]
                exact eL6
              · rw [upd_same, List.map_append]
                rfl
              · unfold gapP
                rw [if_pos hia, List.map_append]
                refine paired_app (.cons ?_ .nil) (PdAt.off (fun b o hb e => ?_) hts)
                · show offH F _ T = _
                  rw [offH_at TF, upd_ne TF]
                  exact eT
                · rw [upd_ne hb]
                  exact s46 b o e
              · rw [List.length_append, if_pos hia]
                exact Nat.succ_le_succ htl
              · intro b o e
                rw [upd_ne (ne_of_none e nFH)]
                exact s46 b o (s4 b o e)
          · rw [decide_eq_false (by omega)]
            have hae : a = i := by omega
            subst hae
            refine iteF ⟨v5, ts, rfl, eL4, eF4, by rw [gap_none, List.append_nil]; exact hts, by rw [if_neg (Nat.lt_irrefl _)]; exact htl, s4⟩
        rintro σ H5 ⟨v5', ts', rfl, eL5, eF5, hts5, htl5, s5⟩
        refine ⟨_, rfl, _, rfl, _, _, rfl, rfl, ?_⟩
        refine while_run pS R (fun j => [some (.str x), some (.ref L), some (.ref F), some (.int (j : Int)), some (.int (a : Int)), v5', v6, v7]) (a + 1) (fun j Qb hQ => ?_) (fun j D' h => ⟨_, rfl, _, _, rfl, rfl, h⟩) ?_
        · refine ⟨.int (j : Int), rfl, .ref L, rfl, L, _, rfl, .inl (SqL.of eL5), _, _, rfl, rfl, _, rfl, ?_⟩
          rw [strV_len]
          rcases Nat.lt_or_ge j R.length with hj | hj
          · obtain ⟨l, hl⟩ : ∃ l, R[j]? = some l := ⟨_, List.getElem?_eq_getElem hj⟩
            have zl := zR l (List.mem_of_getElem? hl)
            rw [decide_eq_true (by omega)]
            rw [decide_eq_true hj, Bool.true_and, getD_at hl] at hQ
            refine iteT ⟨.ref L, rfl, .int (j : Int), rfl, L, _, _, .str (mk l), rfl, rfl, SqL.of eL5, atI_nat (strV_get _ hl), ⟨_, rfl⟩, _, " ", rfl, rfl, zl, 3, rfl, _, rfl, Nat.le_trans (len_stripBy _ _ _ _) zl, rfl, _, rfl, ?_⟩
            show Qb (decide (V.str (cutS (Txt.lstripChars (mk l) " ") none (some 3)) = V.str "...")) H5
            rw [dots3, head3 _ _ rfl, ← dots3]
            exact hQ
          · rw [decide_eq_false (by omega)]
            rw [decide_eq_false (by omega), Bool.false_and] at hQ
            exact iteF hQ
        have rm := runL_ge pS R (a + 1)
        have rm2 : a < R.length → runL pS R (a + 1) ≤ R.length := fun h => runL_le h
        have rm3 : R.length ≤ a → runL pS R (a + 1) = a + 1 := fun h => runL_end (by omega)
        generalize hm : runL pS R (a + 1) = m at rm rm2 rm3 ⊢
        refine ⟨_, rfl, _, rfl, _, _, rfl, rfl, ?_⟩
        show gName 6 (V.int ((m : Int) - (a : Int))) _ _ _
        rw [show (m : Int) - (a : Int) = ((m - a : Nat) : Int) by omega]
        refine while_run pE R (fun j => [some (.str x), some (.ref L), some (.ref F), some (.int (j : Int)), some (.int (a : Int)), v5', some (.int ((m - a : Nat) : Int)), v7]) m (fun j Qb hQ => ?_) (fun j D' h => ⟨_, rfl, _, _, rfl, rfl, h⟩) ?_
        · refine ⟨.int (j : Int), rfl, .ref L, rfl, L, _, rfl, .inl (SqL.of eL5), _, _, rfl, rfl, _, rfl, ?_⟩
          rw [strV_len]
          rcases Nat.lt_or_ge j R.length with hj | hj
          · obtain ⟨l, hl⟩ : ∃ l, R[j]? = some l := ⟨_, List.getElem?_eq_getElem hj⟩
            have hlm := List.mem_of_getElem? hl
            have zl := zR l hlm
            rw [decide_eq_true (by omega)]
            rw [decide_eq_true hj, Bool.true_and, getD_at hl] at hQ
            unfold pE at hQ
            rw [nine_spaces (okc_no9 (hrow l hlm).1)] at hQ
            refine iteT ⟨.ref L, rfl, .int (j : Int), rfl, L, _, _, .str (mk l), rfl, rfl, SqL.of eL5, atI_nat (strV_get _ hl), ⟨_, rfl⟩, _, " ", rfl, rfl, zl, rfl, _, rfl, ?_⟩
            show ite ((!decide (V.str (Txt.stripChars (mk l) " ") = V.str "")) = true) _ _
            rw [strip_test]
            show ite ((!spaces l) = true) _ _
            cases hsp : spaces l with
            | true =>
              rw [hsp] at hQ
              exact iteF hQ
            | false =>
              rw [hsp] at hQ
              refine iteT ⟨.ref L, rfl, .int (j : Int), rfl, L, _, _, .str (mk l), rfl, rfl, SqL.of eL5, atI_nat (strV_get _ hl), ⟨_, rfl⟩, _, " ", rfl, rfl, zl, 3, rfl, _, rfl, Nat.le_trans (len_stripBy _ _ _ _) zl, rfl, _, rfl, ?_⟩
              show Qb (!decide (V.str (cutS (Txt.lstripChars (mk l) " ") none (some 3)) = V.str ">>>")) H5
              rw [gt3, head3 _ _ rfl, ← gt3]
              exact hQ
          · rw [decide_eq_false (by omega)]
            rw [decide_eq_false (by omega), Bool.false_and] at hQ
            exact iteF hQ
        have re := runL_ge pE R m
        have re2 : m ≤ R.length → runL pE R m ≤ R.length := fun h => runL_le h
        have re3 : R.length < m → runL pE R m = m := fun h => runL_end (by omega)
        generalize he : runL pE R m = e at re re2 re3 ⊢
        refine ⟨.int (a : Int), rfl, .ref L, rfl, L, _, rfl, .inl (SqL.of eL5), _, _, rfl, rfl, _, rfl, ?_⟩
        rw [strV_len]
        rcases Nat.lt_or_ge a R.length with hal | hal
        · rw [decide_eq_true (by omega)]
          refine iteT ?_
          have rm2 := rm2 hal
          have re2 := re2 rm2
          obtain ⟨la, hla⟩ : ∃ l, R[a]? = some l := ⟨_, List.getElem?_eq_getElem hal⟩
          have hbg := rc2 la hla
          have hcu : cutsL R a = (a, m, e) :: cutsL R e := by
            conv => lhs; rw [cutsL]
            have h1 : R[a] = la := (List.getElem?_eq_some_iff.mp hla).2
            have h2 : bg (mk la) ">>>" = true := by
              unfold pN at hbg
              cases hb : bg (mk la) ">>>" with
              | true => rfl
              | false => rw [hb] at hbg; cases hbg
            rw [dif_pos hal, h1, if_pos h2, hm, he]
          rw [rc1, hcu] at hcs
          have wk : WkCut R a m e := ⟨by omega, re, re2⟩
          have hone := one_cut wk
          have hfac := cut_facts wk
          refine ⟨.ref L, rfl, .int (a : Int), rfl, _, rfl, .int (e : Int), rfl, _, rfl, L, _, rfl, SqL.of eL5, fun Bp nB => ?_⟩
          rw [cutV_seg _ _ _ (by omega) (by rw [strV_len]; exact re2), strV_drop, strV_take]
          generalize g6 : L2.upd H5 Bp _ = H6
          obtain ⟨s6, eB⟩ := laid g6 nB
          have eF6 := s6 _ _ eF5
          obtain ⟨hBl, hld, hoff, hsr⟩ := hfac
          have hBrow : ∀ l ∈ (R.drop a).take (e - a), okc l = true ∧ l.length ≤ 60 := fun l hl => hrow l (List.mem_of_mem_drop (List.mem_of_mem_take hl))
          generalize (R.drop a).take (e - a) = B at *
          refine ⟨_, rfl, _, rfl, _, _, rfl, rfl, Bp, F, ts'.map V.ref, B, m - a, a + 1, ldAt R a, rfl, eF6, eB, ⟨by omega, by omega, by omega, hBrow⟩, by omega, hld, fun hb => ?_, fun H7 T7 s7 o7 => ?_⟩
          · rw [← (hsr (ldAt R a + 4)).1]
            refine hcutR (a, m, e) (by rw [hcs]; simp) ?_
            show badR R a m e (ldAt R a) = none
            rw [hoff]
            rw [hBl] at hb
            rw [hb]
            rfl
          rw [hone] at o7
          have eF7 := s7 _ _ eF6
          have eL7 := s7 _ _ (s6 _ _ eL5)
          have s57 := s6.trans s7
          cases hbc : badC R (a, m, e) with
          | some f =>
            rw [hbc] at o7
            have e7 := offH_same F H7 _ _ o7
            refine ⟨.ref T7, rfl, T7, _, 0, .int f.1, rfl, rfl, SqT.of e7, rfl, by show 2 ≤ sizeLine; decide, fun Z nZ => ⟨Z, _, rfl, .inr (SqT.of upd_same), rfl, rfl, _, rfl, ?_⟩⟩
            have hin : inV (.int f.1) [.str "example", .str "comment"] = false := rfl
            show ite ((!inV (.int f.1) [.str "example", .str "comment"]) = true) _ _
            rw [hin]
            refine iteT ⟨_, rfl, kE f.1 f.2.1 f.2.2 ?_ _ T7 ((s5.trans s57).trans (same_new nZ)) (same_new nZ _ _ e7)⟩
            rw [hcs, badAll_app hbs]
            show (match badC R (a, m, e) with | some x => some x | none => badAll R (cutsL R e)) = _
            rw [hbc]
          | none =>
            rw [hbc] at o7
            have o7 : PdAt (offH F H7) T7 (pdOf R (a, m, e)) := o7
            obtain ⟨w1, r1, e7, hin⟩ := pd_head o7
            have T7F : T7 ≠ F := fun z => by
              unfold offH at e7
              rw [if_pos z] at e7
              cases e7
            have e7 := offH_same F H7 _ _ e7
            refine ⟨.ref T7, rfl, T7, _, 0, .str w1, rfl, rfl, SqT.of e7, atI_nat (j := 0) rfl, by show 2 ≤ sizeLine; decide, fun Z nZ => ⟨Z, _, rfl, .inr (SqT.of upd_same), rfl, rfl, _, rfl, ?_⟩⟩
            show ite ((!inV (.str w1) [.str "example", .str "comment"]) = true) _ _
            rw [hin]
            have sZ := same_new (o := .tup [.str "example", .str "comment"]) nZ
            generalize L2.upd H7 Z (.tup [.str "example", .str "comment"]) = H8 at sZ ⊢
            have eF8 := sZ _ _ eF7
            have eL8 := sZ _ _ eL7
            have s58 := s57.trans sZ
            refine iteF ⟨.ref F, rfl, .inl ⟨rfl, _, SqL.of eF8⟩, .ref T7, rfl, F, ts'.map V.ref, _, rfl, rfl, eF8, ?_, _, ?_, e, _, _, _, _, ts' ++ [T7], (ps ++ gapP kept i a) ++ [.inr (a, m, e)], rfl, rfl, ?_, ?_, ?_, ?_, ?_, .inl ⟨re2, cs ++ [(a, m, e)], ?_, ?_, fun rest => ?_⟩⟩
            · rw [List.length_map]
              have : (if i < a then 1 else 0) ≤ 1 := by split <;> omega
              exact Nat.lt_of_le_of_lt (show ts'.length ≤ 100 by omega) (by decide)
            · omega
            · rw [upd_ne hLF]
              exact eL8
            · rw [upd_same, List.map_append]
              rfl
            · rw [List.map_append]
              refine paired_app (.cons ?_ .nil) (PdAt.off (fun b o hb e => ?_) hts5)
              · refine o7.same fun b o e => ?_
                have hb : b ≠ F := fun z => by
                  unfold offH at e
                  rw [if_pos z] at e
                  cases e
                rw [offH_at hb] at e ⊢
                rw [upd_ne hb]
                exact sZ b o e
              · rw [upd_ne hb]
                exact s58 b o e
            · rw [List.length_append]
              have : (if i < a then 1 else 0) ≤ 2 * a - 2 * i := by split <;> omega
              show ts'.length + 1 ≤ _
              omega
            · intro b o e
              rw [upd_ne (ne_of_none e nFH)]
              exact s58 b o (s5 b o e)
            · rw [hcs]
              simp
            · rw [badAll_app hbs]
              show (match badC R (a, m, e) with | some x => some x | none => badAll R []) = none
              rw [hbc]
              rfl
            · rw [List.append_assoc, hps]
              show ps ++ piecesL kept i ((a, m, e) :: rest) = _
              show ps ++ (gapP kept i a ++ (.inr (a, m, e) :: piecesL kept e rest)) = _
              simp
        · rw [decide_eq_false (by omega)]
          have ha : a = R.length := by omega
          have hm1 := rm3 hal
          have he1 := re3 (by omega)
          have e0 : cutsL R a = [] := by rw [cutsL, dif_neg (by omega)]
          rw [rc1, e0, List.append_nil] at hcs
          have h1 := hps []
          rw [List.append_nil] at h1
          refine iteF ⟨_, ?_, e, _, _, _, _, ts', ps ++ gapP kept i a, rfl, rfl, eL5, eF5, hts5, ?_, s5, .inr ⟨by omega, by rw [hcs]; exact hbs, ?_⟩⟩
          · omega
          · have : (if i < a then 1 else 0) ≤ 1 := by split <;> omega
            omega
          · rw [hcs, h1, ha, ← hkl]
            rfl
      · omega
    · rw [decide_eq_false (by omega)]
      refine iteF ?_
      have hend : badAll R (cutsL R 0) = none ∧ ps = piecesL kept 0 (cutsL R 0) := by
        rcases hJ with ⟨hi2, cs, hcs, hbs, hps⟩ | ⟨_, h1, h2⟩
        · have e0 : cutsL R i = [] := by rw [cutsL, dif_neg (by omega)]
          rw [e0, List.append_nil] at hcs
          have h1 := hps []
          rw [List.append_nil] at h1
          rw [hcs]
          refine ⟨hbs, ?_⟩
          rw [h1, show i = kept.length by omega]
          show ps = ps ++ gapP kept kept.length kept.length
          rw [gap_none, List.append_nil]
        · exact ⟨h1, h2⟩
      refine ⟨.ref F, rfl, by show 2 ≤ sizeLine; decide, fun T nT => ?_⟩
      have sT := same_new (o := .tup [.str "told", .ref F]) nT
      refine k hend.1 _ T F ts (s4.trans sT) upd_same (sT _ _ eF4) ?_
      rw [← hend.2]
      exact paired_imp (fun t p h => h.same ((offH_same F H4).trans sT)) hts
end

/-! ### the menu -/
def menuS : List Str := [">>> x", ">>> x", ">>>", ">>> ", ">>>  y", "... z", "...", "... ", "", "   ", "a", "1", "E: m", "# c", "Traceback (most recent call last):", "    ...", ">>> # doctest: +SKIP", ">>> # c", "x >>> y", "_z", ">>> x # doctest: -SKIP,+ELLIPSIS", "... z # doctest: +SKIP", "<BLANKLINE>", "... # c", ">> 1", ">>> '# doctest: +SKIP'"]
def menuO : List Str := [">>>x", "...y", ">>>>", "....", ">>> x # doctest: SKIP", ">>> x # doctest: +NO, +SKIP"]
def MENU : List (List Nat) := (("top" : Str) :: ("" : Str) :: (menuS ++ menuO)).map tl
theorem menu_ok : (MENU.all fun m => okc m && decide (m.length ≤ 40)) = true := by decide +kernel
theorem menu_tails : (MENU.all fun m => (List.range 41).all fun k => decide (lwWords (m.drop k) = dwL (m.drop k)) && decide (tl (lwBare (m.drop k)) = bareS (m.drop k))) = true := by decide +kernel
/-- a row of the text, and what it becomes when its tab is widened -/
structure Rw (p : List Nat × List Nat) : Prop where
  ex : ∃ n m, n ≤ 9 ∧ m ∈ MENU ∧ p.2 = sps n ++ m ∧ (p.1 = p.2 ∨ n = 8 ∧ p.1 = 9 :: m)
theorem menu_fact {m : List Nat} (h : m ∈ MENU) : okc m = true ∧ m.length ≤ 40 := by
  have := List.all_eq_true.mp menu_ok m h
  rw [Bool.and_eq_true, decide_eq_true_eq] at this
  exact this
theorem okc_take {l : List Nat} (h : okc l = true) (k : Nat) : okc (l.drop k) = true := by
  unfold okc at *
  rw [List.all_eq_true] at *
  exact fun c hc => h c (List.mem_of_mem_drop hc)
theorem okc_spsA (n : Nat) {m : List Nat} (h : okc m = true) : okc (sps n ++ m) = true := by
  unfold okc at *
  rw [List.all_append, h, Bool.and_true, List.all_eq_true]
  intro c hc
  rw [List.eq_of_mem_replicate hc]
  rfl
theorem menu_row {m : List Nat} (h : m ∈ MENU) (k : Nat) : RowOk (m.drop k) := by
  obtain ⟨h1, h2⟩ := menu_fact h
  have key : ∀ k ≤ 40, RowOk (m.drop k) := fun k hk => by
    have := List.all_eq_true.mp (List.all_eq_true.mp menu_tails m h) k (List.mem_range.mpr (by omega))
    rw [Bool.and_eq_true, decide_eq_true_eq, decide_eq_true_eq] at this
    exact ⟨okc_take h1 k, by rw [List.length_drop]; omega, this.1, this.2⟩
  rcases Nat.lt_or_ge 40 k with hk | hk
  · have e : m.drop k = m.drop 40 := by rw [List.drop_of_length_le (by omega), List.drop_of_length_le (by omega)]
    rw [e]
    exact key 40 (Nat.le_refl _)
  · exact key k hk
theorem rw_ok {p : List Nat × List Nat} (h : Rw p) : okc p.2 = true ∧ p.2.length ≤ 49 ∧ (∀ c ∈ p.1, c ≠ 10 ∧ c ≠ 13) ∧ p.1.length ≤ 49 ∧ Mun.expT 8 0 p.1 = p.2 := by
  obtain ⟨n, m, hn, hm, e2, h1⟩ := h.ex
  obtain ⟨m1, m2⟩ := menu_fact hm
  have o2 : okc p.2 = true := by rw [e2]; exact okc_spsA n m1
  have l2 : p.2.length = n + m.length := by rw [e2, List.length_append, sps_len]
  have no : ∀ {l : List Nat}, okc l = true → ∀ c ∈ l, c ≠ 10 ∧ c ≠ 13 := fun {l} hl c hc => by
    unfold okc at hl
    have := List.all_eq_true.mp hl c hc
    rw [Bool.and_eq_true, decide_eq_true_eq, decide_eq_true_eq] at this
    omega
  refine ⟨o2, by omega, ?_, ?_, ?_⟩
  · rcases h1 with e | ⟨_, e⟩
    · rw [e]
      exact no o2
    · rw [e]
      intro c hc
      rcases List.mem_cons.mp hc with rfl | hc
      · decide
      · exact no m1 c hc
  · rcases h1 with e | ⟨_, e⟩
    · rw [e]
      omega
    · rw [e, List.length_cons]
      omega
  · rcases h1 with e | ⟨hn8, e⟩
    · rw [e]
      exact expT_id o2 0
    · rw [e, e2, hn8, Mun.expT, if_pos rfl, expT_id m1]
      rfl
theorem rw_tail {p : List Nat × List Nat} (h : Rw p) {d : Nat} (hd : d < p.2.length) (hc : p.2.getD d 0 ≠ 32) (k : Nat) : RowOk (p.2.drop (d + k)) := by
  obtain ⟨n, m, hn, hm, e2, _⟩ := h.ex
  rw [e2] at hd hc ⊢
  have hdn : n ≤ d := by
    rcases Nat.lt_or_ge d n with h1 | h1
    · exfalso
      refine hc ?_
      rw [List.getD_eq_getElem?_getD, List.getElem?_append_left (by rw [sps_len]; exact h1)]
      unfold sps
      rw [List.getElem?_replicate, if_pos h1]
      rfl
    · exact h1
  have e : (sps n ++ m).drop (d + k) = m.drop (d - n + k) := by
    rw [show d + k = n + (d - n + k) by omega]
    exact drop_pre n _ m
  rw [e]
  exact menu_row hm _
theorem cuts_in (R : List (List Nat)) : ∀ (f i : Nat), R.length - i ≤ f → ∀ c ∈ cutsL R i, WkCut R c.1 c.2.1 c.2.2 ∧ ∃ l, R[c.1]? = some l ∧ bg (mk l) ">>>" = true
  | 0, i, h, c, hc => by
    rw [cutsL, dif_neg (by omega)] at hc
    cases hc
  | f + 1, i, h, c, hc => by
    rw [cutsL] at hc
    split at hc
    · rename_i hi
      split at hc
      · rename_i hb
        have h1 := runL_ge pS R (i + 1)
        have h2 := runL_ge pE R (runL pS R (i + 1))
        have h3 := runL_le (p := pS) (ws := R) (i := i + 1) (by omega)
        have h4 := runL_le (p := pE) (ws := R) (i := runL pS R (i + 1)) h3
        rcases List.mem_cons.mp hc with rfl | hc
        · exact ⟨⟨Nat.lt_of_succ_le h1, h2, h4⟩, R[i], List.getElem?_eq_getElem hi, hb⟩
        · exact cuts_in R f _ (by omega) c hc
      · exact cuts_in R f _ (by omega) c hc
    · cases hc
theorem cut_rows_ok {R : List (List Nat)} (hR : ∀ r ∈ R, ∀ d, d < r.length → r.getD d 0 ≠ 32 → RowOk (r.drop (d + 4))) : ∀ c ∈ cutsL R 0, badR R c.1 c.2.1 c.2.2 (ldAt R c.1) = none → ∀ r ∈ srcL R c.1 c.2.1 (ldAt R c.1 + 4), RowOk r := by
  intro c hc hb r hr
  obtain ⟨wk, l0, hl0, hbg⟩ := cuts_in R _ 0 (Nat.le_refl _) c hc
  obtain ⟨a, m, e⟩ := c
  dsimp only at *
  have h1 := wk.am
  have h2 := wk.me
  have h3 := wk.ew
  have hld : ldAt R a = lead l0 := by
    unfold ldAt
    rw [getD_at hl0]
  unfold srcL at hr
  obtain ⟨z, hz, rfl⟩ := List.mem_map.mp hr
  obtain ⟨j, hj, ez⟩ := List.mem_iff_getElem.mp hz
  rw [List.length_take, List.length_drop] at hj
  have ej : R[a + j]? = some z := by
    rw [List.getElem_take, List.getElem_drop] at ez
    rw [List.getElem?_eq_getElem (by omega), ez]
  have hzR := List.mem_of_getElem? ej
  rcases Nat.eq_zero_or_pos j with rfl | hj0
  · rw [Nat.add_zero, hl0] at ej
    cases ej
    rw [bgP] at hbg
    unfold pre P3 at hbg
    have e3 : (l0.drop (lead l0)).take 3 = [62, 62, 62] := eq_of_beq hbg
    have hne : l0.drop (lead l0) ≠ [] := fun z => by
      rw [z] at e3
      cases e3
    have hlt : lead l0 < l0.length := by
      rcases Nat.lt_or_ge (lead l0) l0.length with h | h
      · exact h
      · exact absurd (List.drop_of_length_le h) hne
    have hg : l0.getD (lead l0) 0 = 62 := by
      have : ((l0.drop (lead l0)).take 3)[0]? = some 62 := by
        rw [e3]
        rfl
      rw [List.getElem?_take, if_pos (by omega), List.getElem?_drop, Nat.add_zero] at this
      rw [List.getD_eq_getElem?_getD, this]
      rfl
    rw [hld]
    exact hR l0 hzR _ hlt (by rw [hg]; decide)
  · have hs : Txt.startswith (mk z) (Txt.mul " " ((ldAt R a : Nat) : Int) ++ ".") = true := by
      unfold badR at hb
      cases f1 : firstB (blOk (ldAt R a)) R a (m - a) with
      | some _ => rw [f1] at hb; cases hb
      | none =>
        rw [f1] at hb
        dsimp only at hb
        cases f2 : firstB (fun l => Txt.startswith (mk l) (Txt.mul " " ((ldAt R a : Nat) : Int) ++ ".")) R (a + 1) (m - (a + 1)) with
        | some _ => rw [f2] at hb; cases hb
        | none =>
          have := firstB_all _ _ f2 (a + j) (by omega) (by omega)
          rw [getD_at ej] at this
          exact this
    have e1 : ("." : Str) = mk [46] := ext_tl (by decide +kernel)
    rw [mul_sps, e1, app_mk] at hs
    have hp := (starts_pre (mk z) (y := sps (ldAt R a) ++ [46]) (by simp)).symm.trans hs
    unfold pre at hp
    have e3 : z.take (sps (ldAt R a) ++ [46]).length = sps (ldAt R a) ++ [46] := eq_of_beq hp
    rw [List.length_append, sps_len] at e3
    have e4 : (z.take (ldAt R a + [46].length))[ldAt R a]? = some 46 := by
      rw [e3, List.getElem?_append_right (by rw [sps_len]; exact Nat.le_refl _), sps_len, Nat.sub_self]
      rfl
    rw [List.getElem?_take, if_pos (by show _ < _ + 1; omega)] at e4
    have hlt := (List.getElem?_eq_some_iff.mp e4).1
    exact hR z hzR _ hlt (by rw [List.getD_eq_getElem?_getD, e4]; decide)
def endsE (rs : List (List Nat × List Nat)) (t : Nat) : List (List Nat × List Nat) := (if rs = [] then [([], [])] else rs) ++ (if t = 1 then [([], [])] else [])
theorem rw_nil : Rw ([], []) := ⟨0, [], by omega, by decide +kernel, rfl, .inl rfl⟩
theorem ends_rw {rs : List (List Nat × List Nat)} {t : Nat} (h : ∀ p ∈ rs, Rw p) : ∀ p ∈ endsE rs t, Rw p := fun p hp => by
  unfold endsE at hp
  rcases List.mem_append.mp hp with hp | hp
  · split at hp
    · rw [List.mem_singleton.mp hp]
      exact rw_nil
    · exact h p hp
  · split at hp
    · rw [List.mem_singleton.mp hp]
      exact rw_nil
    · cases hp
theorem ends_len {rs : List (List Nat × List Nat)} {t : Nat} (h : rs.length ≤ 15) : (endsE rs t).length ≤ 16 ∧ endsE rs t ≠ [] := by
  unfold endsE
  constructor
  · rw [List.length_append]
    have h1 : (if rs = [] then [(([], []) : List Nat × List Nat)] else rs).length ≤ 15 := by
      split
      · decide
      · exact h
    have h2 : (if t = 1 then [(([], []) : List Nat × List Nat)] else []).length ≤ 1 := by
      split <;> decide
    omega
  · refine List.append_ne_nil_of_left_ne_nil ?_ _
    split
    · simp
    · assumption
theorem ends_join {rs : List (List Nat × List Nat)} {t : Nat} (f : List Nat × List Nat → List Nat) (hf : f ([], []) = []) : joinL [10] ((endsE rs t).map f) = joinL [10] (rs.map f) ++ if t = 1 then [10] else [] := by
  unfold endsE
  have h1 : joinL [10] ((if rs = [] then [([], [])] else rs).map f) = joinL [10] (rs.map f) := by
    split
    · rename_i h
      rw [h, List.map_cons, hf]
      rfl
    · rfl
  have h0 : (if rs = [] then [(([], []) : List Nat × List Nat)] else rs).map f ≠ [] := fun z => by
    have := List.map_eq_nil_iff.mp z
    split at this
    · cases this
    · contradiction
  by_cases ht : t = 1
  · rw [if_pos ht, if_pos ht, List.map_append, ← h1, List.map_cons, hf, List.map_nil, ten_last _ h0]
  · rw [if_neg ht, if_neg ht, List.append_nil, List.append_nil, h1]
/-! tabs widened by replace -/
def wd (l : List Nat) : List Nat := StrLaws.replL [9] (sps 8) l
theorem wd_flat : ∀ l : List Nat, wd l = l.flatMap fun c => if c = 9 then sps 8 else [c]
  | [] => StrLaws.replL_nil
  | c :: r => by
    have ih := wd_flat r
    unfold wd at ih ⊢
    rw [List.flatMap_cons, ← ih]
    by_cases h : c = 9
    · rw [if_pos h, StrLaws.replL_hit (by simp) (by rw [h]; rfl)]
      rfl
    · rw [if_neg h, StrLaws.replL_miss (by simpa using h)]
      rfl
theorem wd_join : ∀ ls : List (List Nat), wd (joinL [10] ls) = joinL [10] (ls.map wd)
  | [] => StrLaws.replL_nil
  | [a] => rfl
  | a :: b :: r => by
    have ih := wd_join (b :: r)
    have e1 : joinL [10] (a :: b :: r) = a ++ 10 :: joinL [10] (b :: r) := rfl
    have e2 : joinL [10] ((a :: b :: r).map wd) = wd a ++ 10 :: joinL [10] ((b :: r).map wd) := rfl
    rw [e1, e2, ← ih, wd_flat, wd_flat, wd_flat, List.flatMap_append, List.flatMap_cons, if_neg (by decide)]
    rfl
theorem wd_id {l : List Nat} (h : okc l = true) : wd l = l := by
  rw [wd_flat]
  induction l with
  | nil => rfl
  | cons c r ih =>
    unfold okc at h ih
    rw [List.all_cons, Bool.and_eq_true, Bool.and_eq_true, decide_eq_true_eq, decide_eq_true_eq] at h
    rw [List.flatMap_cons, if_neg (by omega), ih h.2]
    rfl
theorem wd_rw {p : List Nat × List Nat} (h : Rw p) : wd p.1 = p.2 := by
  obtain ⟨n, m, hn, hm, e2, h1⟩ := h.ex
  obtain ⟨o2, _⟩ := rw_ok h
  rcases h1 with e | ⟨hn8, e⟩
  · rw [e]
    exact wd_id o2
  · have := wd_id (menu_fact hm).1
    rw [wd_flat] at this
    rw [e, e2, wd_flat, List.flatMap_cons, this, hn8]
    rfl
theorem rep_tab (x : List Nat) : Txt.replace (mk x) "\t" (Txt.mul " " 8) = mk (wd x) := by
  refine ext_tl ?_
  have e9 : ("\t" : Str) = mk [9] := ext_tl (by decide +kernel)
  have e8 : Txt.mul " " 8 = mk (sps 8) := mul_sps 8
  have h := StrLaws.replace_list (x := mk x) (y := "\t") (z := Txt.mul " " 8) (by decide +kernel)
  rw [e8, e9] at h ⊢
  exact h
theorem joinL_any (S : List Nat) : ∀ (b : Nat) (ls : List (List Nat)), (∀ l ∈ ls, l.length ≤ b) → (joinL S ls).length ≤ ls.length * (b + S.length)
  | _, [], _ => Nat.zero_le _
  | b, [a], h => by
    have := h a (List.mem_cons_self ..)
    show a.length ≤ 1 * (b + S.length)
    omega
  | b, a :: c :: r, h => by
    have h1 := h a (List.mem_cons_self ..)
    have ih := joinL_any S b (c :: r) fun l hl => h l (List.mem_cons_of_mem _ hl)
    rw [joinL_more _ _ (by simp), List.length_append, List.length_append, List.length_cons, Nat.succ_mul]
    omega
/-! what is told is the same -/
theorem pr_sm {n : Nat} {H : Hp} {v u : V} {d : Str × Bool} (h : PrAt H v d) (k : PrAt H u d) : Sm H (n + 2) v u := by
  obtain ⟨t, rfl, et⟩ := h
  obtain ⟨s, rfl, es⟩ := k
  exact .inr ⟨t, s, _, _, rfl, rfl, .inr ⟨et, es⟩, .cons (.inl ⟨.inr (.inl ⟨_, rfl⟩), rfl⟩) (.cons (.inl ⟨.inr (.inr (.inr ⟨_, rfl⟩)), rfl⟩) .nil), by show 2 ≤ 1000; decide⟩
theorem paired_two {α β γ : Type} {F : α → γ → Prop} {G : β → γ → Prop} {R : α → β → Prop} (h : ∀ x y z, F x z → G y z → R x y) : ∀ {zs : List γ} {xs : List α} {ys : List β}, Paired F xs zs → Paired G ys zs → Paired R xs ys
  | _, _, _, .nil, .nil => .nil
  | _, _, _, .cons a r, .cons b s => .cons (h _ _ _ a b) (paired_two h r s)
theorem paired_len {α β : Type} {F : α → β → Prop} : ∀ {xs : List α} {ys : List β}, Paired F xs ys → xs.length = ys.length
  | _, _, .nil => rfl
  | _, _, .cons _ r => congrArg Nat.succ (paired_len r)
def PdS : PD → Prop
  | .ex _ _ _ _ er sd _ => ScB er ∧ sd.length ≤ 1000
  | _ => True
theorem pd_sm {n0 : Nat} {H : Hp} {T S : Addr} : ∀ {p : PD}, PdS p → PdAt H T p → PdAt H S p → Sm H (n0 + 4) (.ref T) (.ref S)
  | .txt x, _, h, k => .inr ⟨T, S, _, _, rfl, rfl, .inr ⟨h, k⟩, .cons (.inl ⟨.inr (.inl ⟨_, rfl⟩), rfl⟩) (.cons (.inl ⟨.inr (.inl ⟨_, rfl⟩), rfl⟩) .nil), by show 2 ≤ 1000; decide⟩
  | .com src wt n i, _, h, k => .inr ⟨T, S, _, _, rfl, rfl, .inr ⟨h, k⟩, .cons (.inl ⟨.inr (.inl ⟨_, rfl⟩), rfl⟩) (.cons (.inl ⟨.inr (.inl ⟨_, rfl⟩), rfl⟩) (.cons (.inl ⟨.inr (.inl ⟨_, rfl⟩), rfl⟩) (.cons (.inl ⟨.inr (.inr (.inl ⟨_, rfl⟩)), rfl⟩) (.cons (.inl ⟨.inr (.inr (.inl ⟨_, rfl⟩)), rfl⟩) .nil)))), by show 5 ≤ 1000; decide⟩
  | .ex src wt n i er sd br, ⟨hs, hl⟩, ⟨L, ys, h1, h2, h3⟩, ⟨M, zs, k1, k2, k3⟩ => by
    have hp : Paired (Sm H (n0 + 2)) ys zs := paired_two (R := Sm H (n0 + 2)) (F := PrAt H) (G := PrAt H) (fun x y z a b => pr_sm a b) h3 k3
    have hq : Sm H (n0 + 3) (.ref L) (.ref M) := .inr ⟨L, M, ys, zs, rfl, rfl, .inl ⟨h2, k2⟩, hp, by rw [paired_len h3]; exact hl⟩
    exact .inr ⟨T, S, _, _, rfl, rfl, .inr ⟨h1, k1⟩, .cons (.inl ⟨.inr (.inl ⟨_, rfl⟩), rfl⟩) (.cons (.inl ⟨.inr (.inl ⟨_, rfl⟩), rfl⟩) (.cons (.inl ⟨.inr (.inl ⟨_, rfl⟩), rfl⟩) (.cons (.inl ⟨.inr (.inr (.inl ⟨_, rfl⟩)), rfl⟩) (.cons (.inl ⟨.inr (.inr (.inl ⟨_, rfl⟩)), rfl⟩) (.cons (.inl ⟨hs, rfl⟩) (.cons hq (.cons (.inl ⟨.inr (.inl ⟨_, rfl⟩), rfl⟩) .nil))))))), by show 8 ≤ 1000; decide⟩
theorem pds_sm {n0 : Nat} {H : Hp} : ∀ {ps : List PD} {ts us : List Addr}, (∀ p ∈ ps, PdS p) → Paired (PdAt H) ts ps → Paired (PdAt H) us ps → Paired (Sm H (n0 + 4)) (ts.map V.ref) (us.map V.ref)
  | _, _, _, _, .nil, .nil => .nil
  | _, _, _, hp, .cons a r, .cons b s => .cons (pd_sm (hp _ (List.mem_cons_self ..)) a b) (pds_sm (fun p h => hp p (List.mem_cons_of_mem _ h)) r s)
theorem offH_upd (C : Addr) (H : Hp) (o : HO) : offH C (upd H C o) = offH C H := funext fun b => by
  unfold offH
  split
  · rfl
  · rename_i h
    exact upd_ne h
theorem offH_sm {C : Addr} {H H' : Hp} (s : Same H H') : Same (offH C H) (offH C H') := fun b o e => by
  unfold offH at e ⊢
  split at e
  · cases e
  · rename_i h
    rw [if_neg h]
    exact s b o e
theorem opts_ds (ws : List Str) : PrsOf (ws.foldl putO []) (ws.foldl putD []) ∧ (ws.foldl putD []).length ≤ ws.length ∧ srtP (ws.foldl putD []) = srtP (knW ws) := by
  have hp : (ws.foldl putD []).Perm (knW ws) := fold_perm ws (by unfold Uq; simp) (List.Perm.refl _)
  exact ⟨fold_enc ws [], by rw [hp.length_eq]; exact knW_len ws, srtP_perm hp⟩
theorem wa_le (b : Nat) : ∀ {ls : List (List Nat)}, (∀ l ∈ ls, l.length ≤ b) → (wordsAll ls).length ≤ ls.length * (b + 1)
  | [], _ => Nat.zero_le _
  | a :: r, hx => by
    have h1 := wa_le b (ls := r) fun l hl => hx l (List.mem_cons_of_mem _ hl)
    have h2 : (dwL a).length ≤ a.length + 1 := by
      have e44 : ("," : Str) = ⟨[44].toArray⟩ := ext_tl (by decide +kernel)
      have lr : (Txt.replace (behindC (dirS (mk a))) "," " ").length = (behindC (dirS (mk a))).length := by
        rw [len_tl, e44, sp_eq, replace_map (behindC (dirS (mk a))) 44 32, List.length_map, ← len_tl]
      have z1 := (behind_sub (dirS (mk a))).2
      have z2 := (dirS_sub (mk a)).2
      rw [mk_len] at z2
      have z3 := (split_sizes (Txt.replace (behindC (dirS (mk a))) "," " ") (y := [32]) (by simp) (by decide)).2
      have z4 : (dwL a).length ≤ (Txt.split (Txt.replace (behindC (dirS (mk a))) "," " ") ⟨[32].toArray⟩).length := by
        unfold dwL dwS wordsS
        rw [sp_eq]
        exact List.length_filter_le _ _
      omega
    have h3 := hx a (List.mem_cons_self ..)
    have h4 : (wordsAll (a :: r)).length = (dwL a).length + (wordsAll r).length := by
      unfold wordsAll
      rw [List.map_cons, List.flatten_cons, List.length_append]
    rw [h4, List.length_cons, Nat.succ_mul]
    omega
theorem wa_src {R : List (List Nat)} (hl : ∀ l ∈ R, l.length ≤ 49) (hn : R.length ≤ 17) (a m n : Nat) : (wordsAll (srcL R a m (n + 4))).length ≤ 1000 := by
  have h1 := wa_le 45 (ls := srcL R a m (n + 4)) fun l h => by
    obtain ⟨l', h1, rfl⟩ := seg_mem h
    have := hl l' h1
    rw [List.length_drop]
    omega
  have h2 := seg_len R a (m - a) (n + 4)
  have h3 : (srcL R a m (n + 4)).length ≤ 17 := Nat.le_trans h2 hn
  have : (srcL R a m (n + 4)).length * (45 + 1) ≤ 17 * (45 + 1) := Nat.mul_le_mul_right _ h3
  omega
theorem opt_sc (o : Option (List Nat)) : ScB (optV o) := by
  cases o with
  | none => exact .inl rfl
  | some l => exact .inr (.inl ⟨_, rfl⟩)
theorem pdS_of {R : List (List Nat)} (hw : ∀ a m n, (wordsAll (srcL R a m (n + 4))).length ≤ 1000) : ∀ p, PdS (toPD R p)
  | .inl _ => trivial
  | .inr c => by
    show PdS (pdOf R c)
    unfold pdOf
    split
    · exact trivial
    · refine ⟨opt_sc _, ?_⟩
      unfold srtP
      rw [List.length_mergeSort]
      exact Nat.le_trans (knW_len _) (hw _ _ _)
theorem PcsAt.get {C D : Addr} {R : List (List Nat)} {H : Hp} : ∀ {us : List V} {ps : List (Str ⊕ (Nat × Nat × Nat))} {i : Nat} {v : V}, PcsAt C D R H us ps → us[i]? = some v → ∃ p, ps[i]? = some p ∧ (match p with | .inl x => v = .str x | .inr c => PieceIs C D R H c v)
  | v :: vs, .inl x :: ps, 0, _, h, e => by
    cases e
    exact ⟨_, rfl, h.1⟩
  | v :: vs, .inr c :: ps, 0, _, h, e => by
    cases e
    exact ⟨_, rfl, h.1⟩
  | v :: vs, .inl x :: ps, i + 1, u, h, e => PcsAt.get (i := i) h.2 e
  | v :: vs, .inr c :: ps, i + 1, u, h, e => PcsAt.get (i := i) h.2 e
  | [], [], _, _, _, e => by cases e
  | [], .inl _ :: _, _, _, h, _ => h.elim
  | [], .inr _ :: _, _, _, h, _ => h.elim
  | _ :: _, [], _, _, h, _ => h.elim
theorem pieces_few {R : List (List Nat)} (kept : List (List Nat)) : ∀ (f i b : Nat), R.length - i ≤ f → (piecesL kept b (cutsL R i)).length ≤ 2 * (R.length - i) + 1
  | 0, i, b, h => by
    rw [cutsL, dif_neg (by omega)]
    show (gapP kept b kept.length).length ≤ _
    unfold gapP
    split
    · show 1 ≤ _
      omega
    · exact Nat.zero_le _
  | f + 1, i, b, h => by
    rw [cutsL]
    split
    · rename_i hi
      split
      · have h1 := runL_ge pS R (i + 1)
        have h2 := runL_ge pE R (runL pS R (i + 1))
        have ih := pieces_few (R := R) kept f (runL pE R (runL pS R (i + 1))) (runL pE R (runL pS R (i + 1))) (by omega)
        show (gapP kept b i ++ (.inr _ :: piecesL kept _ _)).length ≤ _
        rw [List.length_append, List.length_cons]
        have hg : (gapP kept b i).length ≤ 1 := by
          unfold gapP
          split
          · exact Nat.le_refl _
          · exact Nat.zero_le _
        dsimp only
        omega
      · have ih := pieces_few (R := R) kept f (i + 1) b (by omega)
        omega
    · show (gapP kept b kept.length).length ≤ _
      unfold gapP
      split
      · show 1 ≤ _
        omega
      · exact Nat.zero_le _
/-- the law's list of indents, the least of them -/
theorem leads_small {es : List (List Nat × List Nat)} (h : ∀ p ∈ es, Rw p) : ∀ y ∈ leads (es.map (·.2)), y ≤ 49 := fun y hy => by
  unfold leads at hy
  obtain ⟨l, hl, rfl⟩ := List.mem_map.mp hy
  obtain ⟨p, hp, rfl⟩ := List.mem_map.mp (List.mem_filter.mp hl).1
  have := lead_le p.2
  have := (rw_ok (h p hp)).2.1
  omega
/-- a drawn text, as the program and as the law read it -/
theorem text77 {es : List (List Nat × List Nat)} (h : ∀ p ∈ es, Rw p) (hl : es.length ≤ 16) (hne : es ≠ []) : ∃ (init : List (List Nat)) (last : List Nat), levW (es.map (·.2)) = init ++ [last] ∧ Whole (mk (joinL [10] (es.map (·.1)))) (es.map (·.1)) init last ∧ RdOk (mk (joinL [10] (levW (es.map (·.2))))) init last ∧ ∀ a m n, (wordsAll (srcL (rowsOf init last) a m (n + 4))).length ≤ 1000 := by
  obtain ⟨k0, hk0⟩ : ∃ k0, k0 = leastN (leads (es.map (·.2))) := ⟨_, rfl⟩
  have elev : levW (es.map (·.2)) = (es.map (·.2)).map (·.drop k0) := by
    unfold levW
    rw [hk0]
  have eW : (es.map (·.1)).map (Mun.expT 8 0) = es.map (·.2) := by
    rw [List.map_map]
    exact List.map_congr_left fun p hp => (rw_ok (h p hp)).2.2.2.2
  have llen : (levW (es.map (·.2))).length = es.length := by
    rw [elev, List.length_map, List.length_map]
  rcases nil_or_snoc (levW (es.map (·.2))) with e | ⟨init, last, e⟩
  · rw [e] at llen
    exact absurd (List.length_eq_zero_iff.mp llen.symm) hne
  have row : ∀ l ∈ levW (es.map (·.2)), ∃ p ∈ es, l = p.2.drop k0 := fun l hl => by
    rw [elev] at hl
    obtain ⟨w, hw, rfl⟩ := List.mem_map.mp hl
    obtain ⟨p, hp, rfl⟩ := List.mem_map.mp hw
    exact ⟨p, hp, rfl⟩
  have rowB : ∀ l ∈ levW (es.map (·.2)), okc l = true ∧ l.length ≤ 60 := fun l hl => by
    obtain ⟨p, hp, rfl⟩ := row l hl
    obtain ⟨a, b, _⟩ := rw_ok (h p hp)
    exact ⟨okc_take a _, by rw [List.length_drop]; omega⟩
  have hR : ∀ r ∈ rowsOf init last, ∀ d, d < r.length → r.getD d 0 ≠ 32 → RowOk (r.drop (d + 4)) := fun r hr d hd hc => by
    have hm := rows_mem hr
    rw [← e] at hm
    obtain ⟨p, hp, rfl⟩ := row r hm
    rw [List.length_drop] at hd
    rw [List.getD_eq_getElem?_getD, List.getElem?_drop, ← List.getD_eq_getElem?_getD] at hc
    rw [List.drop_drop, show k0 + (d + 4) = (k0 + d) + 4 by omega]
    exact rw_tail (h p hp) (by omega) hc 4
  have rlen : (rowsOf init last).length ≤ 17 := by
    have h1 := congrArg List.length e
    rw [List.length_append, llen] at h1
    have h2 : ([last] : List (List Nat)).length = 1 := rfl
    unfold rowsOf ifAny
    rw [List.length_append]
    split
    · rw [List.length_nil]
      omega
    · omega
  refine ⟨init, last, e, ⟨rfl, fun z => hne (List.map_eq_nil_iff.mp z), fun l hl => ?_, ?_, by rw [eW]; exact e, ?_, fun c hc => ⟨(cuts_in _ _ 0 (Nat.le_refl _) c hc).1, ?_⟩⟩, ⟨by rw [e]; rfl, fun l hl => rowB l (by rw [e]; exact hl), ?_, cut_rows_ok hR⟩, wa_src (fun l hl => ?_) rlen⟩
  · obtain ⟨p, hp, rfl⟩ := List.mem_map.mp hl
    exact (rw_ok (h p hp)).2.2.1
  · have := joinL_any [10] 49 (es.map (·.1)) fun l hl => by
      obtain ⟨p, hp, rfl⟩ := List.mem_map.mp hl
      exact (rw_ok (h p hp)).2.2.2.1
    rw [List.length_map] at this
    have h1 : es.length * (49 + [10].length) ≤ 16 * (49 + [10].length) := Nat.mul_le_mul_right _ hl
    have h2 : ([10] : List Nat).length = 1 := rfl
    show (joinL [10] (es.map (·.1))).length ≤ 9000
    omega
  · have := joinL_any [10] 60 (init ++ [last]) fun l hl => (rowB l (by rw [e]; exact hl)).2
    have h3 := congrArg List.length e
    rw [llen] at h3
    rw [← h3] at this
    have h1 : es.length * (60 + [10].length) ≤ 16 * (60 + [10].length) := Nat.mul_le_mul_right _ hl
    have h2 : ([10] : List Nat).length = 1 := rfl
    omega
  · refine few_of (fun l hl => ?_) ?_
    · obtain ⟨l', h1, rfl⟩ := seg_mem hl
      have := (rowB l' (by rw [e]; exact rows_mem h1)).2
      rw [List.length_drop]
      omega
    · have := seg_len (rowsOf init last) c.1 (c.2.1 - c.1) (ldAt (rowsOf init last) c.1 + 4)
      unfold srcL
      omega
  · have h1 := congrArg List.length e
    rw [List.length_append, llen] at h1
    have h2 : ([last] : List (List Nat)).length = 1 := rfl
    omega
  · have hm := rows_mem hl
    rw [← e] at hm
    obtain ⟨p, hp, rfl⟩ := row l hm
    have := (rw_ok (h p hp)).2.1
    rw [List.length_drop]
    omega

/-! ### END MARK -/
section
variable {P : Program} {w : World} {K : PySem.W.Frag} {mg : Str → Option Value} {base : Heap}
def DueOk (init : List (List Nat)) (last : List Nat) (J : Hp) (T : Addr) : Prop :=
  (badAll (rowsOf init last) (cutsL (rowsOf init last) 0) = none ∧ ∃ (L : Addr) (ts : List Addr), J T = some (.tup [.str "told", .ref L]) ∧ J L = some (.lst (ts.map V.ref)) ∧ Paired (PdAt J) ts (pdsL init last)) ∨
  ∃ n r f, badAll (rowsOf init last) (cutsL (rowsOf init last) 0) = some (n, r, f) ∧ J T = some (.tup [.int n, .str r, .str f])
theorem PdAt.ext {H H' : Hp} {T : Addr} (s : LamX.ExtN H H') : ∀ {p : PD}, PdAt H T p → PdAt H' T p
  | .txt _, h => s _ _ h nofun
  | .com .., h => s _ _ h nofun
  | .ex .., ⟨L, ys, h1, h2, h3⟩ => ⟨L, ys, s _ _ h1 nofun, s _ _ h2 nofun, paired_imp (fun _ _ ⟨t, e, et⟩ => ⟨t, e, s _ _ et nofun⟩) h3⟩
theorem DueOk.ext {init : List (List Nat)} {last : List Nat} {H H' : Hp} {T : Addr} (s : LamX.ExtN H H') : DueOk init last H T → DueOk init last H' T
  | .inl ⟨hb, L, ts, h1, h2, h3⟩ => .inl ⟨hb, L, ts, s _ _ h1 nofun, s _ _ h2 nofun, paired_imp (fun _ _ h => h.ext s) h3⟩
  | .inr ⟨n, r, f, hb, h⟩ => .inr ⟨n, r, f, hb, s _ _ h nofun⟩
theorem pick_line {c : Prop} [Decidable c] {σ : L2.St} {H : Hp} {Q : VK} {D A B A6 A9 : Addr} {n : Int} (h1 : σ[1]? = some (some (.ref D))) (h2 : σ[2]? = some (some (.ref A6))) (h3 : σ[3]? = some (some (.ref A9))) (d : Drw H D A B n) (hn : n < 1000000) (e6 : H A6 = some (.lst (menuS.map V.str))) (e9 : H A9 = some (.lst (menuO.map V.str))) (o6 : OutL D A B A6) (o9 : OutL D A B A9)
    (k : ∀ m H', m ∈ MENU → Drw H' D A B (n + 1) → Kept D A H H' → Q (.str (mk m)) H') :
    ite c (tCall sp_law_pick [] E0 (tCons (tVar 1) (tCons (tVar 3) tNil)) σ H Q) (tCall sp_law_pick [] E0 (tCons (tVar 1) (tCons (tVar 2) tNil)) σ H Q) := by
  have mem : ∀ (z : Str), z ∈ menuS ++ menuO → tl z ∈ MENU := fun z hz => List.mem_map.mpr ⟨z, List.mem_cons_of_mem _ (List.mem_cons_of_mem _ hz), rfl⟩
  split
  · refine ⟨.ref D, h1, .ref A9, h3, D, A, B, .ref A9, n, _, rfl, d, hn, .inl ⟨A9, rfl, .inl e9, o9.d, o9.a⟩, by show 1 ≤ 6; decide, by show 6 < 1000000; decide, fun i v H' hv d' k' => ?_⟩
    rw [List.getElem?_map] at hv
    obtain ⟨z, hz, rfl⟩ := Option.map_eq_some_iff.mp hv
    exact k (tl z) H' (mem z (List.mem_append_right _ (List.mem_of_getElem? hz))) d' k'
  · refine ⟨.ref D, h1, .ref A6, h2, D, A, B, .ref A6, n, _, rfl, d, hn, .inl ⟨A6, rfl, .inl e6, o6.d, o6.a⟩, by show 1 ≤ 26; decide, by show 26 < 1000000; decide, fun i v H' hv d' k' => ?_⟩
    rw [List.getElem?_map] at hv
    obtain ⟨z, hz, rfl⟩ := Option.map_eq_some_iff.mp hv
    exact k (tl z) H' (mem z (List.mem_append_left _ (List.mem_of_getElem? hz))) d' k'
def sp_law (K : PySem.W.Frag) (Pt : Addr) : Sp := fun vs H Q _ => ∃ (a : Addr) (ns : List Int), vs = [.ref a] ∧ SqL K H a (ns.map V.int) ∧ ns.length ≤ 63 ∧ H Pt = some (.tbl #[]) ∧ ∀ H', Q (.bl true) H'
theorem ok_law {f c Pt : Addr} {oc dV kV doc pm ct : Value} {od an : Option Addr} {osl : Array (Option Value)} (lk : K.lookup f = some ⟨oc, od, .func (PySem.W.fnOf "law" "law" (defArgs s_law) (defBody s_law) (defScope s_law) dV kV doc pm an (.ref c) ct), osl⟩) (hcd : PySem.W.codeIn K (.ref c) "law" = true) (TB : LamX.TabB base mg c Pt) {C_Example : Addr} (T_Example : Txt_Example K mg C_Example) {C_Comment : Addr} (T_Comment : Txt_Comment K mg C_Comment) {C_BadText : Addr} (T_BadText : Err_BadText K mg C_BadText) (O_law_draws : Own P w K mg base "_law_draws" 1 ["script"] [] (sp_law_draws K)) (O_law_take : Own P w K mg base "_law_take" 2 ["draws", "size"] [] (sp_law_take)) (O_law_pick : Own P w K mg base "_law_pick" 3 ["draws", "things"] [] (sp_law_pick)) (O_law_read : Own P w K mg base "_law_read" 3 ["text"] [] (sp_law_read)) (O_parsed : OwnX P w K mg base "parsed" 7 ["text"] [] (sp_parsed C_Example C_Comment C_BadText)) (O_law_shown : Own P w K mg base "_law_shown" 1 ["piece"] [] (sp_law_shown C_Example C_Comment)) (O_law_same : Own P w K mg base "_law_same" 8 ["found", "due"] [] (sp_law_same 8)) (m_int : mg "int" = none) (m_isinstance : mg "isinstance" = none) (m_len : mg "len" = none) (m_min : mg "min" = none) (m_range : mg "range" = none) {C_PromptError : Addr} (zP : mg "PromptError" = some (.ref C_PromptError)) (L_law_wrong : OwnL K mg "_law_wrong" s_law_wrong) (z_PE : PySem.W.kitOne K (.ref C_BadText) (.ref C_PromptError) = some true) : FnOk P w K mg base CX0 10 f (PySem.W.fnOf "law" "law" (defArgs s_law) (defBody s_law) (defScope s_law) dV kV doc pm an (.ref c) ct) ["script"] (sp_law K Pt) := by
  refine fn_tab lk hcd sc_law (fun vs H Q E h => ?_) (fun A outer s H vs Q E hr h => ?_)
  · obtain ⟨_, _, rfl, _⟩ := h
    rfl
  · obtain ⟨a, ns, rfl, hS, hlen, hT, k⟩ := h
    refine ⟨_, (pss_cons (ps_set (i := 1) sc_law.nd rfl (.inl rfl) (pe_own O_law_draws (hr.mono (by decide)) (by rfl) (pa_cons (pv 0) pa_nil)))
      (pss_cons (ps_set (i := 2) sc_law.nd rfl (.inl rfl) (pe_lst (pa_cons pe_str (pa_cons pe_str (pa_cons pe_str (pa_cons pe_str (pa_cons pe_str (pa_cons pe_str (pa_cons pe_str (pa_cons pe_str (pa_cons pe_str (pa_cons pe_str (pa_cons pe_str (pa_cons pe_str (pa_cons pe_str (pa_cons pe_str pa_nil))))))))))))))))
      (pss_cons (ps_set (i := 2) sc_law.nd rfl (.inl rfl) (pe_op op_cat (pv 2) (pe_lst (pa_cons pe_str (pa_cons pe_str (pa_cons pe_str (pa_cons pe_str (pa_cons pe_str (pa_cons pe_str pa_nil)))))))))
      (pss_cons (ps_set (i := 2) sc_law.nd rfl (.inl rfl) (pe_op op_cat (pv 2) (pe_lst (pa_cons pe_str (pa_cons pe_str (pa_cons pe_str (pa_cons pe_str (pa_cons pe_str pa_nil))))))))
      (pss_cons (ps_expr (pe_bm PySem.F.plainAttrs_list PySem.F.slot_list_append PySem.F.type_list_append mt_append (pv 2) (pa_cons pe_str pa_nil)))
      (pss_cons (ps_set (i := 3) sc_law.nd rfl (.inl rfl) (pe_lst (pa_cons pe_str (pa_cons pe_str (pa_cons pe_str (pa_cons pe_str (pa_cons pe_str (pa_cons pe_str pa_nil))))))))
      (pss_cons (ps_for PassesOwn.never rfl (pi_range1 rfl m_range (pa_cons pe_int pa_nil)) (pg_name (i := 4) sc_law.nd rfl (.inl rfl))
          (pss_cons (ps_set (i := 5) sc_law.nd rfl (.inl rfl) (pe_op op_rep (pe_lst (pa_cons pe_str pa_nil)) (pe_own O_law_take (hr.mono (by decide)) (by rfl) (pa_cons (pv 1) (pa_cons pe_int pa_nil)))))
            (pss_cons (ps_for PassesOwn.never rfl (pi_range1 rfl m_range (pa_cons (pe_own O_law_take (hr.mono (by decide)) (by rfl) (pa_cons (pv 1) (pa_cons pe_int pa_nil))) pa_nil)) (pg_name (i := 6) sc_law.nd rfl (.inl rfl))
                (pss_cons (ps_set (i := 7) sc_law.nd rfl (.inl rfl) (pe_ifExp (pt_cmpR op_eq (pe_own O_law_take (hr.mono (by decide)) (by rfl) (pa_cons (pv 1) (pa_cons pe_int pa_nil))) pe_int (nomark _)) (pe_own O_law_pick (hr.mono (by decide)) (by rfl) (pa_cons (pv 1) (pa_cons (pv 3) pa_nil))) (pe_own O_law_pick (hr.mono (by decide)) (by rfl) (pa_cons (pv 1) (pa_cons (pv 2) pa_nil)))))
                  (pss_cut (ps_set (i := 8) sc_law.nd rfl (.inl rfl) (pe_ix ix_list (pe_lst (pa_cons (pe_op op_repS pe_str pe_int) (pa_cons (pe_op op_repS pe_str pe_int) (pa_cons (pe_op op_repS pe_str pe_int) (pa_cons (pe_op op_repS pe_str pe_int) pa_nil))))) (pe_own O_law_pick (hr.mono (by decide)) (by rfl) (pa_cons (pv 1) (pa_cons (pe_op op_cat (pe_op op_rep (pe_lst (pa_cons pe_int pa_nil)) pe_int) (pe_lst (pa_cons pe_int (pa_cons pe_int (pa_cons pe_int pa_nil))))) pa_nil))) (fun _ _ => rfl)))
                  (pss_one (ps_expr (pe_bm PySem.F.plainAttrs_list PySem.F.slot_list_append PySem.F.type_list_append mt_append (pv 5) (pa_cons (pe_op op_add_str (pe_ifExp (pt_cmpR op_gt (pe_own O_law_take (hr.mono (by decide)) (by rfl) (pa_cons (pv 1) (pa_cons pe_int pa_nil))) pe_int (nomark _)) (pv 8) pe_str) (pv 7)) pa_nil)))))))
            (pss_KT (sk_set (i := 9) sc_law.nd rfl (.inr rfl) (ek_op op_add_str (ek_m1 PySem.F.slot_str_join PySem.F.type_str_join mt_join ek_str (pv 5)) (pe_op op_repS pe_str (pe_own O_law_take (hr.mono (by decide)) (by rfl) (pa_cons (pv 1) (pa_cons pe_int pa_nil)))))) (st_set (i := 10) sc_law.nd rfl (.inl rfl) (et_replT (.of (pv 9)) mulOk_sp8 (by decide) (by decide +kernel) (by decide +kernel)))
            (pss_cons (ps_setLc (i := 11) (own := [("line", 7)]) (g := gName 7) (by rfl) sc_law.nd rfl rfl (sw_true rfl rfl rfl (by decide +kernel)) (pi_list (pe_m1 PySem.F.slot_str_split PySem.F.type_str_split mt_split (pv 10) pe_str)) (blkOk_by (own := [("line", 7)]) (N := ["script", "draws", "some", "odd", "turn", "lines", "k", "line", "base", "text", "wide", "indents", "least", "due", "found", "piece"]) (sc := defScope s_law) (by decide +kernel)) (fun _ _ _ _ _ => (pg_name (i := 7) sc_law.nd rfl (.inl rfl))) (fun _ _ _ _ _ => (pts_one (pt_cmpR op_ne (pe_m1 PySem.F.slot_str_strip PySem.F.type_str_strip mt_stripChars (pv 7) pe_str) pe_str (nomark _)))) (fun _ _ _ _ _ => (pe_op op_sub (pe_callB call_len_str (by rfl) m_len PySem.boot_len (pa_cons (pv 7) pa_nil)) (pe_callB call_len_str (by rfl) m_len PySem.boot_len (pa_cons (pe_m1 PySem.F.slot_str_lstrip PySem.F.type_str_lstrip mt_lstripChars (pv 7) pe_str) pa_nil)))))
            (pss_cons (ps_set (i := 12) sc_law.nd rfl (.inr rfl) (pe_op op_mul (pe_callB (cr_min rfl) (by rfl) m_min (by decide +kernel) (pa_cons (pe_op op_cat (pv 11) (pe_lst (pa_cons pe_int pa_nil))) pa_nil)) (pe_callTy call_int1 (by rfl) m_int (by decide +kernel) (pa_cons (pe_cmpR (op_neE hr.units) (pv 11) (pe_lst pa_nil) (nomark _)) pa_nil))))
            (pss_cut (ps_set (i := 13) sc_law.nd rfl (.inl rfl) (pe_own O_law_read (hr.mono (by decide)) (by rfl) (pa_cons (pe_m1 PySem.F.slot_str_join PySem.F.type_str_join mt_join pe_str (pe_lc (own := [("line", 7)]) (g := gName 7) (tt := tYes) (by rfl) sc_law.nd (pi_list (pe_m1 PySem.F.slot_str_split PySem.F.type_str_split mt_split (pv 10) pe_str)) (blkOk_by (own := [("line", 7)]) (N := ["script", "draws", "some", "odd", "turn", "lines", "k", "line", "base", "text", "wide", "indents", "least", "due", "found", "piece"]) (sc := defScope s_law) (by decide +kernel)) (fun _ _ _ _ _ => (pg_name (i := 7) sc_law.nd rfl (.inl rfl))) (fun _ _ _ _ _ => pts_nil) (fun _ _ _ _ _ => (pe_slice sl_str (pv 7) (po_some (pv 12)) po_none)))) pa_nil)))
            (pss_cons (ps_set (i := 14) sc_law.nd rfl (.inl rfl) (pe_lamL (k := 7) (Ng := ["ask", "found", "e"]) L_law_wrong (fun F => F.bindsN (ps := ["ask"]) (fun _ _ _ _ _ _ us hl => match us, hl with | [_], _ => rfl)) (hr.mono (by decide)) (by rfl) sc_law_wrong3 rfl (.inl rfl) (fun _ _ => gives_wrong T_BadText zP z_PE m_isinstance) TB rfl (show LamX.LamS (defScope s_law) _ from LamX.lamS_by (by decide +kernel)) (fun A outer s H E f c' hr2 => (pe_lc (own := [("piece", 15)]) (g := gName 15) (tt := tYes) (by rfl) sc_law.nd (pi_listK (K' := K) rfl (pe_ownX O_parsed (hr2.mono (by decide)) (takes_of rfl rfl rfl rfl) (fun _ _ _ _ h => h) (by rfl) (pa_cons (pv 9) pa_nil))) (by refine blkOk_by (own := [("piece", 15)]) (N := ["script", "draws", "some", "odd", "turn", "lines", "k", "line", "base", "text", "wide", "indents", "least", "due", "found", "piece"]) ?_; dsimp only [LamX.lamCx, LamX.lamEnv, PySem.W.envX]; decide +kernel) (fun _ _ _ _ _ => (pg_name (i := 15) sc_law.nd rfl (.inl rfl))) (fun _ _ _ _ _ => pts_nil) (fun _ _ _ _ _ => (pe_own O_law_shown (hr2.mono (by decide)) (by rfl) (pa_cons (pv 15) pa_nil)))))))
            (pss_one (ps_if (pt_not (pt_val (pe_own O_law_same (hr.mono (by decide)) (by rfl) (pa_cons (pv 14) (pa_cons (pv 13) pa_nil)))))
                (pss_one (ps_ret pe_bl))
                pss_nil))))))))))
      (pss_one (ps_ret pe_bl))))))))), ?_⟩
    refine ⟨.ref a, rfl, a, ns, rfl, hS, hlen, fun H1 D A1 B s1 dr nD nA => ?_⟩
    have tb1 : Tb Pt H1 := fun p hp => by
      rw [List.mem_singleton.mp hp]
      exact LamX.TabS.nil (s1 _ _ hT)
    -- the menu
    refine ⟨by show 14 ≤ sizeLine; decide, fun A0 n0 => ?_⟩
    generalize g0 : L2.upd H1 A0 _ = H2
    obtain ⟨s2, e2⟩ := laid g0 n0
    refine ⟨_, rfl, by show 6 ≤ sizeLine; decide, fun A2 n2 => ?_⟩
    generalize g1 : L2.upd H2 A2 _ = H3
    obtain ⟨s3, e3⟩ := laid g1 n2
    refine ⟨A0, A2, _, _, rfl, rfl, s3 _ _ e2, e3, by show 20 ≤ sizeLine; decide, fun A3 n3 => ?_⟩
    generalize g2 : L2.upd H3 A3 _ = H4
    obtain ⟨s4, e4⟩ := laid g2 n3
    refine ⟨_, rfl, by show 5 ≤ sizeLine; decide, fun A5 n5 => ?_⟩
    generalize g3 : L2.upd H4 A5 _ = H5
    obtain ⟨s5, e5⟩ := laid g3 n5
    refine ⟨A3, A5, _, _, rfl, rfl, s5 _ _ e4, e5, by show 25 ≤ sizeLine; decide, fun A6 n6 => ?_⟩
    generalize g4 : L2.upd H5 A6 _ = H6
    obtain ⟨s6, e6⟩ := laid g4 n6
    have s16 : Same H1 H6 := (((s2.trans s3).trans s4).trans s5).trans s6
    have n61 : H1 A6 = none := ((s2.trans s3).trans (s4.trans s5)).free n6
    refine ⟨.ref A6, rfl, .inl ⟨rfl, _, SqL.of e6⟩, A6, _, _, rfl, rfl, e6, by show 25 < sizeLine; decide, ?_⟩
    have s17 : Same H1 (L2.upd H6 A6 (.lst (menuS.map V.str))) := fun b o e => by
      rw [upd_ne (ne_of_none e n61)]
      exact s16 b o e
    have e7 : (L2.upd H6 A6 (.lst (menuS.map V.str))) A6 = some (.lst (menuS.map V.str)) := upd_same
    show _
    generalize g5 : L2.upd H6 A6 _ = H7
    have g5' : L2.upd H6 A6 (.lst (menuS.map V.str)) = H7 := g5
    rw [g5'] at s17 e7
    refine ⟨by show 6 ≤ sizeLine; decide, fun A9 n9 => ?_⟩
    generalize g6 : L2.upd H7 A9 _ = H8
    obtain ⟨s8, e8⟩ := laid g6 n9
    have e8 : H8 A9 = some (.lst (menuO.map V.str)) := e8
    have o6 := out_of dr n61
    have o9 := out_of (dr.same s17) n9
    have d8 := (dr.same s17).same s8
    have tb8 := (tb1.same s17).same s8
    have e68 := s8 _ _ e7
    refine ⟨12, rfl, by decide, by decide, for_range (n := 12) (fun i σ H9 => ∃ (n : Int) (v4 v5 v6 v7 v8 v9 v10 v11 v12 v13 v14 : Option V), σ = [some (.ref a), some (.ref D), some (.ref A6), some (.ref A9), v4, v5, v6, v7, v8, v9, v10, v11, v12, v13, v14, none] ∧ Drw H9 D A1 B n ∧ n ≤ 100 * i ∧ H9 A6 = some (.lst (menuS.map V.str)) ∧ H9 A9 = some (.lst (menuO.map V.str)) ∧ Tb Pt H9) ⟨0, _, _, _, _, _, _, _, _, _, _, _, rfl, d8, by omega, e68, e8, tb8⟩ ?_ ?_⟩
    · rintro i σ H9 hi ⟨n, v4, v5, v6, v7, v8, v9, v10, v11, v12, v13, v14, rfl, d9, hn, e6, e9, tb9⟩
      refine ⟨by show 1 ≤ sizeLine; decide, fun X nX => ?_⟩
      generalize g7 : L2.upd H9 X _ = H10
      obtain ⟨s10, eX⟩ := laid g7 nX
      refine ⟨.ref D, rfl, D, A1, B, n, 2, rfl, d9.same s10, by omega, by decide, by decide, fun r2 H11 p0 p1 d11 k11 => ?_⟩
      have rk : r2 = 0 ∨ r2 = 1 := by omega
      obtain ⟨rs0, hrs0, hr0, hl0⟩ : ∃ rs0 : List (List Nat × List Nat), (List.replicate r2.toNat [V.str "top"]).flatten = strV (rs0.map (·.1)) ∧ (∀ p ∈ rs0, Rw p) ∧ rs0.length ≤ 1 := by
        rcases rk with rfl | rfl
        · exact ⟨[], rfl, fun p hp => (by cases hp), by decide⟩
        · refine ⟨[(tl "top", tl "top")], rfl, fun p hp => ?_, by decide⟩
          rw [List.mem_singleton.mp hp]
          exact ⟨0, tl "top", by omega, List.mem_cons_self .., rfl, .inl rfl⟩
      have oX := out_of d9 nX
      refine ⟨X, r2, _, rfl, rfl, k11 _ _ eX oX.d oX.a, by omega, by omega, ?_, fun L nL => ?_⟩
      · show 1 * r2.toNat ≤ _
        exact Nat.le_trans (show 1 * r2.toNat ≤ 10 by omega) (by decide)
      rw [hrs0]
      generalize g8 : L2.upd H11 L _ = H12
      obtain ⟨s12, eL⟩ := laid g8 nL
      have oL := out_of d11 nL
      have d12 := d11.same s12
      have e6b := s12 _ _ (k11 _ _ (s10 _ _ e6) o6.d o6.a)
      have e9b := s12 _ _ (k11 _ _ (s10 _ _ e9) o9.d o9.a)
      have L6 : L ≠ A6 := (ne_of_none (k11 _ _ (s10 _ _ e6) o6.d o6.a) nL).symm
      have L9 : L ≠ A9 := (ne_of_none (k11 _ _ (s10 _ _ e9) o9.d o9.a) nL).symm
      have tb12 : Tb Pt H12 := ((tb9.same s10).nl (k11.nl (d9.same s10))).same s12
      refine ⟨.ref D, rfl, D, A1, B, n + 1, 15, rfl, d12, by omega, by decide, by decide, fun r3 H13 q0 q1 d13 k13 => ?_⟩
      obtain ⟨jn, rfl⟩ := Int.eq_ofNat_of_zero_le q0
      refine ⟨(jn : Int), rfl, by omega, by omega, for_range (n := jn) (fun kk σ H14 => ∃ (rs : List (List Nat × List Nat)) (m : Int) (v6 v7 v8 : Option V), σ = [some (.ref a), some (.ref D), some (.ref A6), some (.ref A9), some (.int (0 + (i : Nat))), some (.ref L), v6, v7, v8, v9, v10, v11, v12, v13, v14, none] ∧ rs.length ≤ 1 + kk ∧ (∀ p ∈ rs, Rw p) ∧ H14 L = some (.lst (strV (rs.map (·.1)))) ∧ Drw H14 D A1 B m ∧ m ≤ n + 2 + 4 * kk ∧ H14 A6 = some (.lst (menuS.map V.str)) ∧ H14 A9 = some (.lst (menuO.map V.str)) ∧ Tb Pt H14) ⟨rs0, n + 1 + 1, _, _, _, rfl, by omega, hr0, k13 _ _ eL oL.d oL.a, d13, by omega, k13 _ _ e6b o6.d o6.a, k13 _ _ e9b o9.d o9.a, tb12.nl (k13.nl d12)⟩ ?_ ?_⟩
      · rintro kk σ H14 hkk ⟨rs, m, v6, v7, v8, rfl, hrl, hrs, eL, d14, hm, e6, e9, tb14⟩
        refine ⟨.ref D, rfl, D, A1, B, m, 24, rfl, d14, by omega, by decide, by decide, fun r4 H15 _ _ d15 k15 => ⟨rfl, _, rfl, ?_⟩⟩
        refine pick_line rfl rfl rfl d15 (by omega) (k15 _ _ e6 o6.d o6.a) (k15 _ _ e9 o9.d o9.a) o6 o9 fun ml H16 hml d16 k16 => ?_
        obtain ⟨mk1, mk2⟩ := menu_fact hml
        have k46 := k15.trans k16
        refine ⟨fun σ H17 => ∃ (b : Nat), σ = [some (.ref a), some (.ref D), some (.ref A6), some (.ref A9), some (.int (0 + (i : Nat))), some (.ref L), some (.int (0 + (kk : Nat))), some (.str (mk ml)), some (.str (mk (sps b))), v9, v10, v11, v12, v13, v14, none] ∧ b ≤ 9 ∧ Drw H17 D A1 B (m + 1 + 1 + 1) ∧ Kept D A1 H16 H17, ?_, ?_⟩
        · refine ⟨_, _, rfl, rfl, mulOk_sp (n := 8) (by omega), _, _, rfl, rfl, mulOk_sp (n := 8) (by omega), _, _, rfl, rfl, mulOk_sp (n := 9) (by omega), _, _, rfl, rfl, mulOk_sp (n := 7) (by omega), by show 4 ≤ sizeLine; decide, fun G nG => ?_⟩
          generalize h1 : L2.upd H16 G _ = J1
          obtain ⟨t1, eG⟩ := laid h1 nG
          refine ⟨.ref D, rfl, by show 1 ≤ sizeLine; decide, fun G1 nG1 => ?_⟩
          generalize h2 : L2.upd J1 G1 _ = J2
          obtain ⟨t2, eG1⟩ := laid h2 nG1
          refine ⟨G1, 9, _, rfl, rfl, eG1, by decide, by decide, by decide, fun G2 nG2 => ?_⟩
          generalize h3 : L2.upd J2 G2 _ = J3
          obtain ⟨t3, eG2⟩ := laid h3 nG2
          refine ⟨by show 3 ≤ sizeLine; decide, fun G3 nG3 => ?_⟩
          generalize h4 : L2.upd J3 G3 _ = J4
          obtain ⟨t4, eG3⟩ := laid h4 nG3
          refine ⟨G2, G3, _, _, rfl, rfl, t4 _ _ eG2, eG3, by show 12 ≤ sizeLine; decide, fun G4 nG4 => ?_⟩
          generalize h5 : L2.upd J4 G4 _ = J5
          obtain ⟨t5, eG4⟩ := laid h5 nG4
          have t15 := (((t1.trans t2).trans t3).trans t4).trans t5
          have oG := out_of d16 nG
          have oG4 := out_of ((((d16.same t1).same t2).same t3).same t4) nG4
          refine ⟨D, A1, B, .ref G4, m + 1 + 1, _, rfl, d16.same t15, by omega, .inl ⟨G4, rfl, .inl eG4, oG4.d, oG4.a⟩, by show 1 ≤ 12; decide, by show 12 < 1000000; decide, fun i2 v H17 hv d17 k17 => ?_⟩
          obtain ⟨jb, hjb, rfl⟩ := ints_of (js := [0, 0, 0, 0, 0, 0, 0, 0, 0, 1, 2, 3]) hv
          have hb : ∃ b : Nat, b ≤ 9 ∧ atI [V.str (Txt.mul " " 8), V.str (Txt.mul " " 8), V.str (Txt.mul " " 9), V.str (Txt.mul " " 7)] (jb : Int) = some (.str (mk (sps b))) := by
            have e8 : Txt.mul " " 8 = mk (sps 8) := mul_sps 8
            have e9 : Txt.mul " " 9 = mk (sps 9) := mul_sps 9
            have e7 : Txt.mul " " 7 = mk (sps 7) := mul_sps 7
            rw [e8, e9, e7]
            have : jb ≤ 3 := mem_le (js := [0, 0, 0, 0, 0, 0, 0, 0, 0, 1, 2, 3]) (b := 3) (by decide) hjb
            rcases (show jb = 0 ∨ jb = 1 ∨ jb = 2 ∨ jb = 3 by omega) with rfl | rfl | rfl | rfl
            · exact ⟨8, by omega, rfl⟩
            · exact ⟨8, by omega, rfl⟩
            · exact ⟨9, by omega, rfl⟩
            · exact ⟨7, by omega, rfl⟩
          obtain ⟨b, hb9, hat⟩ := hb
          have t25 := ((t2.trans t3).trans t4).trans t5
          exact ⟨G, _, _, _, rfl, rfl, SqL.of (k17 _ _ (t25 _ _ eG) oG.d oG.a), hat, b, rfl, hb9, d17, Kept.fresh t15 k17⟩
        rintro σ H17 ⟨b, rfl, hb9, d17, k17⟩
        have k47 := k46.trans k17
        refine ⟨.ref L, rfl, .inl ⟨rfl, _, SqL.of (k47 _ _ eL oL.d oL.a)⟩, .ref D, rfl, D, A1, B, m + 1 + 1 + 1, 6, rfl, d17, by omega, by decide, by decide, fun r6 H18 _ _ d18 k18 => ?_⟩
        have k48 := k47.trans k18
        have eL8 := k48 _ _ eL oL.d oL.a
        have tb18 := tb14.nl (k48.nl d14)
        have e68 := k48 _ _ e6 o6.d o6.a
        have e98 := k48 _ _ e9 o9.d o9.a
        refine ⟨_, _, rfl, rfl, _, rfl, ?_⟩
        have lrs : (strV (rs.map (·.1))).length < sizeLine := by
          rw [strV_len, List.length_map]
          exact Nat.lt_of_le_of_lt (show rs.length ≤ 100 by omega) (by decide)
        have stp : ∀ (p : List Nat × List Nat) (z : Str) (J : Hp), Rw p → z = mk p.1 → J = L2.upd H18 L (.lst (strV (rs.map (·.1)) ++ [.str z])) → ∃ (rs : List (List Nat × List Nat)), rs.length ≤ 1 + (kk + 1) ∧ (∀ p ∈ rs, Rw p) ∧ J L = some (.lst (strV (rs.map (·.1)))) ∧ Drw J D A1 B (m + 1 + 1 + 1 + 1) ∧ J A6 = some (.lst (menuS.map V.str)) ∧ J A9 = some (.lst (menuO.map V.str)) ∧ Tb Pt J := fun p z J hp hz hJ => by
          subst hJ
          refine ⟨rs ++ [p], by rw [List.length_append]; show rs.length + 1 ≤ _; omega, fun q hq => ?_, ?_, d18.upd oL.d oL.a oL.b, ?_, ?_, tb18.nl (NL.upd eL8)⟩
          · rcases List.mem_append.mp hq with h | h
            · exact hrs q h
            · rw [List.mem_singleton.mp h]
              exact hp
          · rw [upd_same, List.map_append, hz]
            exact congrArg (fun x => some (HO.lst x)) (strV_app _ [p.1])
          · rw [upd_ne L6.symm]
            exact e68
          · rw [upd_ne L9.symm]
            exact e98
        have lb : (mk (sps b)).length + (mk ml).length ≤ sizeLine := by
          rw [mk_len, mk_len, sps_len]
          exact line_of (by omega)
        cases decide ((0 : Int) < r6) with
        | true =>
          obtain ⟨rs', h1, h2, h3, h4, h5, h6, h7⟩ := stp (sps b ++ ml, sps b ++ ml) _ _ ⟨b, ml, hb9, hml, rfl, .inl rfl⟩ (app_mk (sps b) ml) rfl
          exact iteT ⟨.str (mk (sps b)), rfl, .str (mk ml), rfl, _, _, rfl, rfl, lb, L, _, _, rfl, rfl, eL8, lrs, rs', _, _, _, _, rfl, h1, h2, h3, h4, by omega, h5, h6, h7⟩
        | false =>
          have e9' : ("\t" : Str) = mk [9] := ext_tl (by decide +kernel)
          obtain ⟨rs', h1, h2, h3, h4, h5, h6, h7⟩ := stp (9 :: ml, sps 8 ++ ml) ("\t" ++ mk ml) _ ⟨8, ml, by omega, hml, rfl, .inr ⟨rfl, rfl⟩⟩ (by rw [e9', app_mk]; rfl) rfl
          exact iteF ⟨.str (mk ml), rfl, _, _, rfl, rfl, by rw [e9', mk_len, mk_len]; exact line_of (show 1 + ml.length ≤ _ by omega), L, _, _, rfl, rfl, eL8, lrs, rs', _, _, _, _, rfl, h1, h2, h3, h4, by omega, h5, h6, h7⟩
      · rintro σ H14 ⟨rs, m, v6, v7, v8, rfl, hrl, hrs, eL, d14, hm, e6, e9, tb14⟩
        refine ⟨fun σ H15 => ∃ (es : List (List Nat × List Nat)), σ = [some (.ref a), some (.ref D), some (.ref A6), some (.ref A9), some (.int (0 + (i : Nat))), some (.ref L), v6, v7, v8, some (.str (mk (joinL [10] (es.map (·.1))))), v10, v11, v12, v13, v14, none] ∧ (∀ p ∈ es, Rw p) ∧ es.length ≤ 16 ∧ es ≠ [] ∧ Drw H15 D A1 B (m + 1) ∧ H15 A6 = some (.lst (menuS.map V.str)) ∧ H15 A9 = some (.lst (menuO.map V.str)) ∧ Tb Pt H15, ?_, ?_⟩
        · have hsum : (((rs.map fun p : List Nat × List Nat => p.1).map mk).map (·.length)).sum + ((rs.map fun p : List Nat × List Nat => p.1).map mk).length * ("\n" : Str).length ≤ 16777216 := by
            have hb := sum_le (b := 49) (l := ((rs.map fun p : List Nat × List Nat => p.1).map mk).map (·.length)) fun x hx => by
              obtain ⟨z, hz, rfl⟩ := List.mem_map.mp hx
              obtain ⟨z2, hz2, rfl⟩ := List.mem_map.mp hz
              obtain ⟨p, hp, rfl⟩ := List.mem_map.mp hz2
              rw [mk_len]
              exact (rw_ok (hrs p hp)).2.2.2.1
            rw [List.length_map, List.length_map, List.length_map] at hb
            have h1 : ("\n" : Str).length = 1 := rfl
            rw [List.length_map, List.length_map, h1]
            have : 49 * rs.length ≤ 49 * 15 := Nat.mul_le_mul_left _ (by omega)
            omega
          refine ⟨⟨_, rfl⟩, .ref L, rfl, "\n", L, (rs.map fun p : List Nat × List Nat => p.1).map mk, rfl, rfl, .inl (SqL.of eL), hsum, .ref D, rfl, D, A1, B, m, 2, rfl, d14, by omega, by decide, by decide, fun r9 H15 q2 q3 d15 k15 => ?_⟩
          have r9k : r9 = 0 ∨ r9 = 1 := by omega
          have hjl : (joinL [10] (rs.map fun p : List Nat × List Nat => p.1)).length ≤ 15 * 50 := by
            have := joinL_any [10] 49 (rs.map fun p : List Nat × List Nat => p.1) fun l hl => by
              obtain ⟨p, hp, rfl⟩ := List.mem_map.mp hl
              exact (rw_ok (hrs p hp)).2.2.2.1
            rw [List.length_map] at this
            have h2 : rs.length * (49 + [10].length) ≤ 15 * (49 + [10].length) := Nat.mul_le_mul_right _ (by omega)
            exact Nat.le_trans this h2
          have hml : Txt.mul "\n" r9 = mk (if r9.toNat = 1 then [10] else []) := by
            rcases r9k with rfl | rfl
            · rw [mul_0]
              rfl
            · rw [nl10, mul_1]
              rfl
          have htx : Txt.join "\n" ((rs.map fun p : List Nat × List Nat => p.1).map mk) ++ Txt.mul "\n" r9 = mk (joinL [10] ((endsE rs r9.toNat).map (·.1))) := by
            rw [hml, ends_join _ rfl, nl10, join_mk, app_mk]
          refine ⟨_, _, rfl, rfl, mulOk01 r9k, _, _, rfl, rfl, ?_, ?_⟩
          · rw [hml, nl10, join_mk, mk_len, mk_len]
            have : (if r9.toNat = 1 then [10] else [] : List Nat).length ≤ 1 := by split <;> decide
            exact line_of (by omega)
          rw [htx]
          exact ⟨endsE rs r9.toNat, rfl, ends_rw hrs, (ends_len (by omega)).1, (ends_len (t := r9.toNat) (rs := rs) (by omega)).2, d15, k15 _ _ e6 o6.d o6.a, k15 _ _ e9 o9.d o9.a, tb14.nl (k15.nl d14)⟩
        rintro σ H15 ⟨es, rfl, hes, hel, hen, d15, e6, e9, tb15⟩
        obtain ⟨init, last, elev, wh, rd, hws⟩ := text77 hes hel hen
        -- the tabs widened
        have lX := wh.lx
        refine ⟨.str _, rfl, _, rfl, ?_, ?_⟩
        · have h8 : (Txt.mul " " 8).length = 8 := by decide +kernel
          rw [mk_len, h8]
          have lX : (joinL [10] (es.map (·.1))).length ≤ 9000 := lX
          omega
        have ewd : (es.map (·.1)).map wd = es.map (·.2) := by
          rw [List.map_map]
          exact List.map_congr_left fun p hp => wd_rw (hes p hp)
        rw [rep_tab, wd_join, ewd]
        have h10 : ∀ l ∈ es.map (·.2), (10 : Nat) ∉ l := fun l hl h => by
          obtain ⟨p, hp, rfl⟩ := List.mem_map.mp hl
          have := List.all_eq_true.mp (rw_ok (hes p hp)).1 10 h
          revert this
          decide
        have hW : es.map (·.2) ≠ [] := fun z => hen (List.map_eq_nil_iff.mp z)
        have eS := split_join (x := mk (joinL [10] (es.map (·.2)))) rfl hW h10
        have lW : (joinL [10] (es.map (·.2))).length ≤ 16 * 50 := by
          have := joinL_any [10] 49 (es.map (·.2)) fun l hl => by
            obtain ⟨p, hp, rfl⟩ := List.mem_map.mp hl
            exact (rw_ok (hes p hp)).2.1
          rw [List.length_map] at this
          have h2 : es.length * (49 + [10].length) ≤ 16 * (49 + [10].length) := Nat.mul_le_mul_right _ hel
          exact Nat.le_trans this h2
        have hWr : ∀ l ∈ es.map (·.2), okc l = true ∧ l.length ≤ 49 := fun l hl => by
          obtain ⟨p, hp, rfl⟩ := List.mem_map.mp hl
          exact ⟨(rw_ok (hes p hp)).1, (rw_ok (hes p hp)).2.1⟩
        have hWn : (es.map (·.2)).length ≤ 16 := by rw [List.length_map]; exact hel
        have hld := leads_small hes
        generalize hXt : mk (joinL [10] (es.map (·.1))) = Xt at wh lX ⊢
        generalize es.map (·.2) = W at *
        -- the indents
        refine ⟨.str _, rfl, ⟨_, rfl⟩, _, "\n", rfl, rfl, by decide +kernel, ?_, fun p np => ?_⟩
        · rw [mk_len]
          exact line_of (by omega)
        rw [eS]
        generalize g9 : L2.upd H15 p _ = H16
        obtain ⟨s16', ep⟩ := laid g9 np
        refine ⟨p, rfl, ⟨_, SqL.of ep⟩, fun M nM => lc_list (K := K) (a := p) (xs := (W.map mk).map V.str) (fun i H2 => H2 M = some (.lst (natV (leads (W.take i)))) ∧ Same H16 H2) ⟨upd_same, same_new nM⟩ (fun i H2 _ h2 => SqL.of (h2.2 _ _ ep)) ?_ ?_⟩
        · rintro i3 y J hi3 ⟨eM, s2⟩
          obtain ⟨z, rfl, hz⟩ := str_at hi3
          rw [List.getElem?_map] at hz
          obtain ⟨l, hl, rfl⟩ := Option.map_eq_some_iff.mp hz
          have hm := hWr l (List.mem_of_getElem? hl)
          have hi4 : i3 < W.length := (List.getElem?_eq_some_iff.mp hl).1
          have zl : (mk l).length ≤ sizeLine := by rw [mk_len]; exact line_of (by omega)
          refine ⟨rfl, .str (mk l), rfl, ⟨_, rfl⟩, _, " ", rfl, rfl, zl, rfl, _, rfl, ?_⟩
          rw [lead_take W hl, strip_test]
          show (if (!spaces l) = true then _ else _)
          cases spaces l with
          | true =>
            refine iteF ⟨?_, s2⟩
            show J M = some (.lst (natV (leads (W.take i3) ++ [])))
            rw [List.append_nil]
            exact eM
          | false =>
            have l3 := leads_len (W.take i3)
            rw [List.length_take] at l3
            have e := indent_len (mk l)
            rw [← sp_one] at e
            refine iteT ⟨.str (mk l), rfl, _, rfl, zl, .str (mk l), rfl, ⟨_, rfl⟩, _, " ", rfl, rfl, zl, _, rfl, Nat.le_trans (len_stripBy _ _ _ _) zl, _, _, rfl, rfl, _, eM, ?_, ?_, fun b o e => ?_⟩
            · unfold natV
              rw [List.length_map, List.length_map]
              exact Nat.lt_of_le_of_lt (show (leads (W.take i3)).length ≤ 100 by omega) (by decide)
            · rw [upd_same]
              show some (HO.lst (natV (leads (W.take i3)) ++ [V.int (((mk l).length : Int) - ((Txt.lstripChars (mk l) " ").length : Int))])) = _
              rw [e]
              show some (HO.lst (natV (leads (W.take i3)) ++ [.int (lead l : Nat)])) = some (.lst (natV (leads (W.take i3) ++ [lead l])))
              rw [natV_app]
              rfl
            · rw [upd_ne (ne_of_none e nM)]
              exact s2 b o e
        rintro H17 ⟨eM, s17'⟩
        rw [List.length_map, List.length_map, List.take_length] at eM
        -- the least of them
        refine ⟨.ref M, rfl, by show 1 ≤ sizeLine; decide, fun N1 nN1 => ?_⟩
        generalize ga : L2.upd H17 N1 _ = H18
        obtain ⟨s18, eN1⟩ := laid ga nN1
        have eM8 := s18 _ _ eM
        have lleads := leads_len W
        refine ⟨M, N1, _, _, rfl, rfl, eM8, eN1, ?_, fun N2 nN2 => ?_⟩
        · unfold natV
          rw [List.length_map, List.length_map]
          exact Nat.le_trans (show (leads W).length + 1 ≤ 100 by omega) (by decide)
        generalize gb : L2.upd H18 N2 _ = H19
        obtain ⟨s19, eN2⟩ := laid gb nN2
        have eN2' : natV (leads W) ++ [V.int 99] = ((leads W ++ [99]).map fun n : Nat => (n : Int)).map V.int := by
          unfold natV
          rw [List.map_append, List.map_append]
          rfl
        rw [eN2'] at eN2
        refine ⟨N2, _, rfl, SqL.of eN2, ?_, fun mm hm1 hm2 => ?_⟩
        · rw [List.length_map, List.length_append]
          show 0 < _ + 1
          omega
        have hmm := leastN_int hm1 hm2
        subst hmm
        refine ⟨.ref M, rfl, by show 0 ≤ sizeLine; decide, fun N3 nN3 => ?_⟩
        generalize gc : L2.upd H19 N3 _ = H20
        obtain ⟨s20, eN3⟩ := laid gc nN3
        refine ⟨M, N3, _, rfl, rfl, SqL.of (s20 _ _ (s19 _ _ eM8)), SqL.of eN3, .inr ⟨_, rfl, ?_⟩⟩
        have hk0 : (leastN (leads W ++ [99]) : Int) * (if (!(natV (leads W)).isEmpty) = true then 1 else 0) = (leastN (leads W) : Int) := by
          rcases Nat.eq_zero_or_pos (leads W).length with h0 | h0
          · have e0 := List.length_eq_zero_iff.mp h0
            rw [e0]
            rfl
          · have hne : leads W ≠ [] := fun z => by rw [z] at h0; exact absurd h0 (Nat.lt_irrefl _)
            have hemp : (natV (leads W)).isEmpty = false := by
              cases hq : leads W with
              | nil => exact absurd hq hne
              | cons _ _ => rfl
            have h1 := leastN_spec hne
            have h2 : leastN (leads W) = leastN (leads W ++ [99]) := leastN_eq (List.mem_append_left _ h1.1) fun y hy => by
              rcases List.mem_append.mp hy with hy | hy
              · exact h1.2 y hy
              · rw [List.mem_singleton.mp hy]
                exact Nat.le_trans (hld _ h1.1) (by decide)
            rw [hemp, ← h2]
            exact Int.mul_one _
        refine ⟨_, _, rfl, rfl, .inr (by split <;> decide), ?_⟩
        show gName 12 (V.int ((leastN (leads W ++ [99]) : Int) * (if (!(natV (leads W)).isEmpty) = true then 1 else 0))) _ _ _
        rw [hk0]
        have s15 : Same H15 H20 := (((s16'.trans s17').trans s18).trans s19).trans s20
        generalize hle : leastN (leads W) = k0
        -- what is due
        refine ⟨fun σ J => ∃ (T : Addr), σ = [some (.ref a), some (.ref D), some (.ref A6), some (.ref A9), some (.int (0 + (i : Nat))), some (.ref L), v6, v7, v8, some (.str Xt), some (.str (mk (joinL [10] W))), some (.ref M), some (.int (k0 : Nat)), some (.ref T), v14, none] ∧ DueOk init last J T ∧ Same H15 J, ?_, ?_⟩
        · refine ⟨⟨_, rfl⟩, .str _, rfl, ⟨_, rfl⟩, _, "\n", rfl, rfl, by decide +kernel, ?_, fun p2 np2 => ?_⟩
          · rw [mk_len]
            exact line_of (by omega)
          rw [eS]
          generalize gd : L2.upd H20 p2 _ = H21
          obtain ⟨s21, ep2⟩ := laid gd np2
          refine ⟨p2, rfl, ⟨_, SqL.of ep2⟩, fun M2 nM2 => lc_list (K := K) (a := p2) (xs := (W.map mk).map V.str) (fun i H2 => H2 M2 = some (.lst (strV ((W.take i).map (·.drop k0)))) ∧ Same H21 H2) ⟨upd_same, same_new nM2⟩ (fun i H2 _ h2 => SqL.of (h2.2 _ _ ep2)) ?_ ?_⟩
          · rintro i3 y J hi3 ⟨eM2, s2⟩
            obtain ⟨z, rfl, hz⟩ := str_at hi3
            rw [List.getElem?_map] at hz
            obtain ⟨l, hl, rfl⟩ := Option.map_eq_some_iff.mp hz
            have hm := hWr l (List.mem_of_getElem? hl)
            have hi4 : i3 < W.length := (List.getElem?_eq_some_iff.mp hl).1
            have zl : (mk l).length ≤ sizeLine := by rw [mk_len]; exact line_of (by omega)
            refine ⟨rfl, ?_⟩
            unfold tYes
            show ite (true = true) _ _
            rw [if_pos rfl]
            refine ⟨.str (mk l), rfl, .int (k0 : Nat), rfl, _, rfl, mk l, rfl, zl, _, eM2, ?_, ?_, fun b o e => ?_⟩
            · rw [strV_len, List.length_map, List.length_take]
              exact Nat.lt_of_le_of_lt (show min i3 W.length ≤ 100 by omega) (by decide)
            · rw [upd_same, List.take_add_one, hl, List.map_append, cutF]
              exact congrArg (fun x => some (HO.lst x)) (strV_app _ [l.drop k0])
            · rw [upd_ne (ne_of_none e nM2)]
              exact s2 b o e
          rintro H22 ⟨eM2, s22⟩
          rw [List.length_map, List.length_map, List.take_length] at eM2
          have elv : W.map (·.drop k0) = levW W := by
            unfold levW
            rw [hle]
          rw [elv] at eM2
          refine ⟨"\n", M2, (levW W).map mk, rfl, rfl, .inl (SqL.of eM2), ?_, ?_⟩
          · have hb := sum_le (b := 60) (l := ((levW W).map mk).map (·.length)) fun x hx => by
              obtain ⟨z, hz, rfl⟩ := List.mem_map.mp hx
              obtain ⟨z2, hz2, rfl⟩ := List.mem_map.mp hz
              rw [mk_len]
              exact (rd.row z2 (by rw [← elev]; exact hz2)).2
            have h1 : ("\n" : Str).length = 1 := rfl
            have h2 : (levW W).length ≤ 16 := by rw [← elv, List.length_map]; exact hWn
            rw [List.length_map, List.length_map] at hb
            rw [List.length_map, h1]
            have : 60 * (levW W).length ≤ 60 * 16 := Nat.mul_le_mul_left _ h2
            omega
          have hj : Txt.join "\n" ((levW W).map mk) = mk (joinL [10] (levW W)) := by rw [nl10, join_mk]
          rw [hj]
          have sJ : Same H15 H22 := (s15.trans s21).trans s22
          exact ⟨_, init, last, rfl, rd, fun hb J T L ts s eT eL hp => ⟨T, rfl, .inl ⟨hb, L, ts, eT, eL, hp⟩, sJ.trans s⟩, fun n r f hb J T s eT => ⟨T, rfl, .inr ⟨n, r, f, hb, eT⟩, sJ.trans s⟩⟩
        rintro σ J0 ⟨T, rfl, due, s0⟩
        have tb0 := tb15.same s0
        have fin : ∀ (J : Hp) (v13 v14 : Option V), LamX.ExtN J0 J → Tb Pt J → ∃ (n' : Int) (u4 u5 u6 u7 u8 u9 u10 u11 u12 u13 u14 : Option V), [some (V.ref a), some (.ref D), some (.ref A6), some (.ref A9), some (.int (0 + (i : Nat))), some (.ref L), v6, v7, v8, some (.str Xt), some (.str (mk (joinL [10] W))), some (.ref M), some (.int (k0 : Nat)), v13, v14, none] = [some (V.ref a), some (.ref D), some (.ref A6), some (.ref A9), u4, u5, u6, u7, u8, u9, u10, u11, u12, u13, u14, none] ∧ Drw J D A1 B n' ∧ n' ≤ 100 * ((i + 1 : Nat) : Int) ∧ J A6 = some (.lst (menuS.map V.str)) ∧ J A9 = some (.lst (menuO.map V.str)) ∧ Tb Pt J := fun J v13 v14 x tb => ⟨m + 1, _, _, _, _, _, _, _, _, _, _, _, rfl, (d15.same s0).ext x, by push_cast; omega, x _ _ (s0 _ _ e6) nofun, x _ _ (s0 _ _ e9) nofun, tb⟩
        refine ⟨tb0, fun J1 x1 tb1 J2 s2 => ?_⟩
        have x2 : LamX.ExtN J0 J2 := x1.trans (LamX.ExtN.of s2)
        have tb2 : Tb Pt J2 := Tb.same tb1 s2
        have due2 : DueOk init last J2 T := due.ext x2
        refine ⟨.str Xt, rfl, Xt, _, init, last, rfl, wh, fun hb J3 p us s3 np ep hpc => ⟨p, rfl, ⟨_, SqL.of ep⟩, fun C nC => ?_⟩, fun n r f hb J3 d s3 _ ed => ⟨rfl, d, _, _, _, rfl, ed, fun J4 T2 s4 _ e2 => ?_⟩⟩
        · have hlen := hpc.len
          have hfew := pieces_few (R := rowsOf init last) (keptOf init last) _ 0 0 (Nat.le_refl _)
          have hRn : (rowsOf init last).length ≤ 19 := by
            have := rd.few
            unfold rowsOf ifAny
            rw [List.length_append]
            split
            · rw [List.length_nil]
              omega
            · show init.length + 1 ≤ 19
              omega
          have hPds : ∀ q ∈ pdsL init last, PdS q := fun q hq => by
            obtain ⟨z, _, rfl⟩ := List.mem_map.mp hq
            exact pdS_of hws z
          rcases due2 with ⟨_, LD, tsD, eT, eLD, hpD⟩ | ⟨n, r, f, hbad, _⟩
          rotate_left
          · rw [hb] at hbad
            cases hbad
          have hpdsL : pdsL init last = (piecesL (keptOf init last) 0 (cutsL (rowsOf init last) 0)).map (toPD (rowsOf init last)) := rfl
          rw [hpdsL] at hpD hPds
          generalize piecesL (keptOf init last) 0 (cutsL (rowsOf init last) 0) = pcs at hpc hlen hfew hpD hPds
          refine lc_list (K := K) (a := p) (xs := us) (fun i J => ∃ ts2 : List Addr, J C = some (.lst (ts2.map V.ref)) ∧ Paired (PdAt (offH C J)) ts2 ((pcs.take i).map (toPD (rowsOf init last))) ∧ ts2.length ≤ i ∧ Same J3 J) ⟨[], upd_same, .nil, Nat.le_refl _, same_new nC⟩ (fun i J _ h => by
            obtain ⟨_, _, _, _, s⟩ := h
            exact SqL.of (s _ _ ep)) ?_ ?_
          · rintro i2 v J hv ⟨ts2, eC, hp2, hl2, s4⟩
            have hi2 : i2 < us.length := (List.getElem?_eq_some_iff.mp hv).1
            obtain ⟨pc, hpi, hfit⟩ := (hpc.nl (NL.same s4)).get hv
            have stp : ∀ (J' : Hp) (T' : Addr), Same J J' → J T' = none → PdAt (offH C J') T' (toPD (rowsOf init last) pc) → ∃ acc, J' C = some (.lst acc) ∧ acc.length < sizeLine ∧ ∃ ts2 : List Addr, (L2.upd J' C (.lst (acc ++ [.ref T']))) C = some (.lst (ts2.map V.ref)) ∧ Paired (PdAt (offH C (L2.upd J' C (.lst (acc ++ [.ref T']))))) ts2 ((pcs.take (i2 + 1)).map (toPD (rowsOf init last))) ∧ ts2.length ≤ i2 + 1 ∧ Same J3 (L2.upd J' C (.lst (acc ++ [.ref T']))) := fun J' T' sJ nT hT => by
              refine ⟨_, sJ _ _ eC, ?_, ts2 ++ [T'], ?_, ?_, ?_, fun b o e => ?_⟩
              · rw [List.length_map]
                exact Nat.lt_of_le_of_lt (show ts2.length ≤ 100 by omega) (by decide)
              · rw [upd_same, List.map_append]
                rfl
              · rw [offH_upd, List.take_add_one, hpi, List.map_append]
                exact paired_app (.cons hT .nil) (paired_imp (fun _ _ h => h.same (offH_sm sJ)) hp2)
              · rw [List.length_append]
                exact Nat.succ_le_succ hl2
              · rw [upd_ne (ne_of_none e nC)]
                exact sJ _ _ (s4 _ _ e)
            have ne : ∀ {J' : Hp} {T' : Addr}, Same J J' → J T' = none → T' ≠ C := fun sJ nT => (ne_of_none eC nT).symm
            refine ⟨rfl, ?_⟩
            unfold tYes
            show ite (true = true) _ _
            rw [if_pos rfl]
            rcases pc with z | c
            · have hfit : v = .str z := hfit
              subst hfit
              refine ⟨_, rfl, _, rfl, .inl ⟨z, rfl, fun J' T' sJ nT eT' => ?_⟩⟩
              refine stp J' T' sJ nT ?_
              show offH C J' T' = _
              rw [offH_at (ne sJ nT)]
              exact eT'
            · have hfit : PieceIs C_Example C_Comment (rowsOf init last) J c v := hfit
              obtain ⟨q, dx, fs, rfl, hq⟩ := hfit
              cases hr : (srcL (rowsOf init last) c.1 c.2.1 (ldAt (rowsOf init last) c.1 + 4)).all remL with
              | true =>
                rw [hr, if_pos rfl] at hq
                refine ⟨_, rfl, _, rfl, .inr (.inl ⟨q, dx, fs, _, _, _, _, rfl, hq.1, hq.2, fun J' T' sJ nT eT' => ?_⟩)⟩
                refine stp J' T' sJ nT ?_
                show PdAt _ _ (pdOf _ c)
                unfold pdOf
                rw [hr, if_pos rfl]
                show offH C J' T' = _
                rw [offH_at (ne sJ nT)]
                exact eT'
              | false =>
                rw [hr, if_neg Bool.false_ne_true] at hq
                obtain ⟨od1, od2, od3⟩ := opts_ds (wordsAll (srcL (rowsOf init last) c.1 c.2.1 (ldAt (rowsOf init last) c.1 + 4)))
                refine ⟨_, rfl, _, rfl, .inr (.inr ⟨q, dx, fs, _, _, _, _, _, _, _, _, rfl, hq.1, od1, Nat.le_trans od2 (hws _ _ _), hq.2, fun J' T' L' ys sJ nT nL eL' hys eT' => ?_⟩)⟩
                refine stp J' T' sJ nT ?_
                show PdAt _ _ (pdOf _ c)
                unfold pdOf
                rw [hr, if_neg Bool.false_ne_true, ← err_same]
                refine ⟨L', ys, ?_, ?_, ?_⟩
                · rw [offH_at (ne sJ nT)]
                  exact eT'
                · rw [offH_at (ne sJ nL)]
                  exact eL'
                · rw [← od3]
                  exact pr_cut (sJ _ _ eC) hys
          · rintro J ⟨ts2, eC, hp2, hl2, s4⟩ J4 T2 s5 nT2 e2
            rw [hlen, List.take_length] at hp2
            have s25 : Same J2 J4 := (s3.trans s4).trans s5
            have hp2' : Paired (PdAt J4) ts2 (pcs.map (toPD (rowsOf init last))) := paired_imp (fun _ _ h => h.same ((offH_same C J).trans s5)) hp2
            have hpD' : Paired (PdAt J4) tsD (pcs.map (toPD (rowsOf init last))) := paired_imp (fun _ _ h => h.same s25) hpD
            have hsm : Sm J4 8 (.ref T2) (.ref T) := by
              refine .inr ⟨T2, T, _, _, rfl, rfl, .inr ⟨e2, s25 _ _ eT⟩, .cons (.inl ⟨.inr (.inl ⟨_, rfl⟩), rfl⟩) (.cons (.inr ⟨C, LD, _, _, rfl, rfl, .inl ⟨s5 _ _ eC, s25 _ _ eLD⟩, pds_sm hPds hp2' hpD', ?_⟩) .nil), by show 2 ≤ 1000; decide⟩
              rw [List.length_map]
              omega
            refine ⟨.ref T2, rfl, .ref T, rfl, _, _, rfl, hsm, fun J5 s6 => ⟨true, rfl, iteF (fin J5 _ _ (x2.trans (LamX.ExtN.of (s25.trans s6))) (tb2.same (s25.trans s6)))⟩⟩
        · rcases due2 with ⟨hb0, _⟩ | ⟨n', r', f', hb', eT⟩
          · rw [hb] at hb0
            cases hb0
          rw [hb] at hb'
          cases hb'
          have s24 : Same J2 J4 := s3.trans s4
          have hsm : Sm J4 8 (.ref T2) (.ref T) := by
            refine .inr ⟨T2, T, _, _, rfl, rfl, .inr ⟨e2, s24 _ _ eT⟩, .cons (.inl ⟨.inr (.inr (.inl ⟨_, rfl⟩)), rfl⟩) (.cons (.inl ⟨.inr (.inl ⟨_, rfl⟩), rfl⟩) (.cons (.inl ⟨.inr (.inl ⟨_, rfl⟩), rfl⟩) .nil)), ?_⟩
            show 3 ≤ 1000
            decide
          refine ⟨.ref T2, rfl, .ref T, rfl, _, _, rfl, hsm, fun J5 s6 => ⟨true, rfl, iteF (fin J5 _ _ (x2.trans (LamX.ExtN.of (s24.trans s6))) (tb2.same (s24.trans s6)))⟩⟩
    · rintro σ H2 ⟨n, v4, v5, v6, v7, v8, v9, v10, v11, v12, v13, v14, rfl, dr, hn, _⟩
      exact k H2
end
set_option maxHeartbeats 0
theorem all_mk {l : PySem.W.OpenLaw} {w : World} {K : PySem.W.Frag} {h : Heap} {mg : Str → Option Value} {fa : Addr} {f0 : Addr} {od0 an0 : Option Addr} {sl0 : Array (Option Value)} {oc0 kV0 dc0 pm0 cd0 ct0 : Value}
    {f1 : Addr} {od1 an1 : Option Addr} {sl1 : Array (Option Value)} {oc1 kV1 dc1 pm1 cd1 ct1 : Value}
    {f2 : Addr} {od2 an2 : Option Addr} {sl2 : Array (Option Value)} {oc2 kV2 dc2 pm2 cd2 ct2 : Value}
    {f3 : Addr} {od3 an3 : Option Addr} {sl3 : Array (Option Value)} {oc3 kV3 dc3 pm3 cd3 ct3 : Value}
    {f4 : Addr} {od4 an4 : Option Addr} {sl4 : Array (Option Value)} {oc4 kV4 dc4 pm4 cd4 ct4 : Value}
    {f5 : Addr} {od5 an5 : Option Addr} {sl5 : Array (Option Value)} {oc5 kV5 dc5 pm5 cd5 ct5 : Value}
    {f6 : Addr} {od6 an6 : Option Addr} {sl6 : Array (Option Value)} {oc6 kV6 dc6 pm6 cd6 ct6 : Value}
    {f7 : Addr} {od7 an7 : Option Addr} {sl7 : Array (Option Value)} {oc7 kV7 dc7 pm7 cd7 ct7 : Value}
    {f8 : Addr} {od8 an8 : Option Addr} {sl8 : Array (Option Value)} {oc8 kV8 dc8 pm8 cd8 ct8 : Value}
    {f9 : Addr} {od9 an9 : Option Addr} {sl9 : Array (Option Value)} {oc9 kV9 dc9 pm9 cd9 ct9 : Value}
    {f10 : Addr} {od10 an10 : Option Addr} {sl10 : Array (Option Value)} {oc10 kV10 dc10 pm10 cd10 ct10 : Value}
    {f11 : Addr} {od11 an11 : Option Addr} {sl11 : Array (Option Value)} {oc11 kV11 dc11 pm11 cd11 ct11 : Value}
    {f12 : Addr} {od12 an12 : Option Addr} {sl12 : Array (Option Value)} {oc12 kV12 dc12 pm12 cd12 ct12 : Value}
    {f13 : Addr} {od13 an13 : Option Addr} {sl13 : Array (Option Value)} {oc13 kV13 dc13 pm13 cd13 ct13 : Value}
    {f14 : Addr} {od14 an14 : Option Addr} {sl14 : Array (Option Value)} {oc14 kV14 dc14 pm14 cd14 ct14 : Value}
    {f15 : Addr} {od15 an15 : Option Addr} {sl15 : Array (Option Value)} {oc15 kV15 dc15 pm15 cd15 ct15 : Value}
    {f16 : Addr} {od16 an16 : Option Addr} {sl16 : Array (Option Value)} {oc16 kV16 dc16 pm16 cd16 ct16 : Value}
    {f17 : Addr} {od17 an17 : Option Addr} {sl17 : Array (Option Value)} {oc17 kV17 dc17 pm17 cd17 ct17 : Value}
    {f18 : Addr} {od18 an18 : Option Addr} {sl18 : Array (Option Value)} {oc18 kV18 dc18 pm18 cd18 ct18 : Value}
    {f19 : Addr} {od19 an19 : Option Addr} {sl19 : Array (Option Value)} {oc19 kV19 dc19 pm19 cd19 ct19 : Value}
    {f20 : Addr} {od20 an20 : Option Addr} {sl20 : Array (Option Value)} {oc20 kV20 dc20 pm20 cd20 ct20 : Value}
    {f21 : Addr} {od21 an21 : Option Addr} {sl21 : Array (Option Value)} {oc21 kV21 dc21 pm21 cd21 ct21 : Value}
    {f22 : Addr} {od22 an22 : Option Addr} {sl22 : Array (Option Value)} {oc22 kV22 dc22 pm22 cd22 ct22 : Value}
    {f23 : Addr} {od23 an23 : Option Addr} {sl23 : Array (Option Value)} {oc23 kV23 dc23 pm23 cd23 ct23 : Value}
    {f24 : Addr} {od24 an24 : Option Addr} {sl24 : Array (Option Value)} {oc24 kV24 dc24 pm24 cd24 ct24 : Value}
    {f25 : Addr} {od25 an25 : Option Addr} {sl25 : Array (Option Value)} {oc25 kV25 dc25 pm25 cd25 ct25 : Value}
    {f26 : Addr} {od26 an26 : Option Addr} {sl26 : Array (Option Value)} {oc26 kV26 dc26 pm26 cd26 ct26 : Value}
    {f27 : Addr} {od27 an27 : Option Addr} {sl27 : Array (Option Value)} {oc27 kV27 dc27 pm27 cd27 ct27 : Value}
    {f28 : Addr} {od28 an28 : Option Addr} {sl28 : Array (Option Value)} {oc28 kV28 dc28 pm28 cd28 ct28 : Value}
    {f29 : Addr} {od29 an29 : Option Addr} {sl29 : Array (Option Value)} {oc29 kV29 dc29 pm29 cd29 ct29 : Value}
    {f30 : Addr} {od30 an30 : Option Addr} {sl30 : Array (Option Value)} {oc30 kV30 dc30 pm30 cd30 ct30 : Value}
    {f31 : Addr} {od31 an31 : Option Addr} {sl31 : Array (Option Value)} {oc31 kV31 dc31 pm31 cd31 ct31 : Value}
    {f32 : Addr} {od32 an32 : Option Addr} {sl32 : Array (Option Value)} {oc32 kV32 dc32 pm32 cd32 ct32 : Value}
    {f33 : Addr} {od33 an33 : Option Addr} {sl33 : Array (Option Value)} {oc33 kV33 dc33 pm33 cd33 ct33 : Value}
    {f34 : Addr} {od34 an34 : Option Addr} {sl34 : Array (Option Value)} {oc34 kV34 dc34 pm34 cd34 ct34 : Value}
    {f35 : Addr} {od35 an35 : Option Addr} {sl35 : Array (Option Value)} {oc35 kV35 dc35 pm35 cd35 ct35 : Value}
    {f36 : Addr} {od36 an36 : Option Addr} {sl36 : Array (Option Value)} {oc36 kV36 dc36 pm36 cd36 ct36 : Value}
    {f37 : Addr} {od37 an37 : Option Addr} {sl37 : Array (Option Value)} {oc37 kV37 dc37 pm37 cd37 ct37 : Value}
    {f38 : Addr} {od38 an38 : Option Addr} {sl38 : Array (Option Value)} {oc38 kV38 dc38 pm38 cd38 ct38 : Value}
    {f39 : Addr} {od39 an39 : Option Addr} {sl39 : Array (Option Value)} {oc39 kV39 dc39 pm39 cd39 ct39 : Value}
    {f40 : Addr} {od40 an40 : Option Addr} {sl40 : Array (Option Value)} {oc40 kV40 dc40 pm40 cd40 ct40 : Value}
    {f41 : Addr} {od41 an41 : Option Addr} {sl41 : Array (Option Value)} {oc41 kV41 dc41 pm41 ct41 : Value} {cL Pt : Addr} {tcc : Value} {tcd : Option Addr} {tvs : Array Value} {tcs : Array (Option Value)}
    {f42 : Addr} {od42 an42 : Option Addr} {sl42 : Array (Option Value)} {oc42 kV42 dc42 pm42 cd42 ct42 : Value}
    {f43 : Addr} {od43 an43 : Option Addr} {sl43 : Array (Option Value)} {oc43 kV43 dc43 pm43 cd43 ct43 : Value}
    {tk43_0 : Tok}
    {T43 : Addr} {Tc43 : Value} {Td43 : Option Addr} {Tn43 : Nat} {Ts43 : Array (Option Value)}
    {f44 : Addr} {od44 an44 : Option Addr} {sl44 : Array (Option Value)} {oc44 kV44 dc44 pm44 cd44 ct44 : Value}
    {tk44_0 : Tok}
    {T44 : Addr} {Tc44 : Value} {Td44 : Option Addr} {Tn44 : Nat} {Ts44 : Array (Option Value)}
    {C_Example : Addr}
    {C_Comment : Addr}
    {C_BadText N_BadText : Addr} {en_BadText eq_BadText : Str} {eb_BadText es_BadText : List Value} {em_BadText : List Str} {ea_BadText : Bool} {ec_BadText : Option Bool} {ed_BadText : Option Addr} {k0_BadText k1_BadText k2_BadText k3_BadText k5_BadText : Option Value}
    {C_PromptError : Addr}
    {t_AHEAD : Tok}
    {t_BLANKS : Tok}
    {a_FLAGS : Addr} {ad_FLAGS : Option Addr} {an_FLAGS : Nat} {as_FLAGS : Array (Option Value)} {t_FLAGS0 t_FLAGS1 t_FLAGS2 t_FLAGS3 t_FLAGS4 t_FLAGS5 t_FLAGS6 t_FLAGS7 : Tok}
    {t_FURTHER : Tok}
    {a_HEADERS : Addr} {ad_HEADERS : Option Addr} {an_HEADERS : Nat} {as_HEADERS : Array (Option Value)} {t_HEADERS0 t_HEADERS1 : Tok}
    {t_MARK : Tok}
    {t_PROMPT : Tok}
    {t_TAB : Tok} (X : K.In h) (G : h.Ns mainGlobals mg) (hfa : mg "law" = some (.ref fa)) (own : LamX.OwnTab K fa h)
    (a0 : PySem.W.nsIn K mainGlobals "held" = some (some (.ref f0))) (l0 : K.lookup f0 = some ⟨oc0, od0, .func (PySem.W.fnOf "held" "held" (defArgs s_held) (defBody s_held) (defScope s_held) .none kV0 dc0 pm0 an0 cd0 ct0), sl0⟩) (e0 : PySem.W.codeIn K cd0 "held" = true) (k0 : PySem.W.keepIn K (.ref f0) = true)
    (a1 : PySem.W.nsIn K mainGlobals "kept_lines" = some (some (.ref f1))) (l1 : K.lookup f1 = some ⟨oc1, od1, .func (PySem.W.fnOf "kept_lines" "kept_lines" (defArgs s_kept_lines) (defBody s_kept_lines) (defScope s_kept_lines) .none kV1 dc1 pm1 an1 cd1 ct1), sl1⟩) (e1 : PySem.W.codeIn K cd1 "kept_lines" = true) (k1 : PySem.W.keepIn K (.ref f1) = true)
    (a2 : PySem.W.nsIn K mainGlobals "lines_of" = some (some (.ref f2))) (l2 : K.lookup f2 = some ⟨oc2, od2, .func (PySem.W.fnOf "lines_of" "lines_of" (defArgs s_lines_of) (defBody s_lines_of) (defScope s_lines_of) .none kV2 dc2 pm2 an2 cd2 ct2), sl2⟩) (e2 : PySem.W.codeIn K cd2 "lines_of" = true) (k2 : PySem.W.keepIn K (.ref f2) = true)
    (a3 : PySem.W.nsIn K mainGlobals "fed" = some (some (.ref f3))) (l3 : K.lookup f3 = some ⟨oc3, od3, .func (PySem.W.fnOf "fed" "fed" (defArgs s_fed) (defBody s_fed) (defScope s_fed) .none kV3 dc3 pm3 an3 cd3 ct3), sl3⟩) (e3 : PySem.W.codeIn K cd3 "fed" = true) (k3 : PySem.W.keepIn K (.ref f3) = true)
    (a4 : PySem.W.nsIn K mainGlobals "indent_of" = some (some (.ref f4))) (l4 : K.lookup f4 = some ⟨oc4, od4, .func (PySem.W.fnOf "indent_of" "indent_of" (defArgs s_indent_of) (defBody s_indent_of) (defScope s_indent_of) .none kV4 dc4 pm4 an4 cd4 ct4), sl4⟩) (e4 : PySem.W.codeIn K cd4 "indent_of" = true) (k4 : PySem.W.keepIn K (.ref f4) = true)
    (a5 : PySem.W.nsIn K mainGlobals "is_blank" = some (some (.ref f5))) (l5 : K.lookup f5 = some ⟨oc5, od5, .func (PySem.W.fnOf "is_blank" "is_blank" (defArgs s_is_blank) (defBody s_is_blank) (defScope s_is_blank) .none kV5 dc5 pm5 an5 cd5 ct5), sl5⟩) (e5 : PySem.W.codeIn K cd5 "is_blank" = true) (k5 : PySem.W.keepIn K (.ref f5) = true)
    (a6 : PySem.W.nsIn K mainGlobals "words_of" = some (some (.ref f6))) (l6 : K.lookup f6 = some ⟨oc6, od6, .func (PySem.W.fnOf "words_of" "words_of" (defArgs s_words_of) (defBody s_words_of) (defScope s_words_of) .none kV6 dc6 pm6 an6 cd6 ct6), sl6⟩) (e6 : PySem.W.codeIn K cd6 "words_of" = true) (k6 : PySem.W.keepIn K (.ref f6) = true)
    (a7 : PySem.W.nsIn K mainGlobals "begins" = some (some (.ref f7))) (l7 : K.lookup f7 = some ⟨oc7, od7, .func (PySem.W.fnOf "begins" "begins" (defArgs s_begins) (defBody s_begins) (defScope s_begins) .none kV7 dc7 pm7 an7 cd7 ct7), sl7⟩) (e7 : PySem.W.codeIn K cd7 "begins" = true) (k7 : PySem.W.keepIn K (.ref f7) = true)
    (a8 : PySem.W.nsIn K mainGlobals "cuts_of" = some (some (.ref f8))) (l8 : K.lookup f8 = some ⟨oc8, od8, .func (PySem.W.fnOf "cuts_of" "cuts_of" (defArgs s_cuts_of) (defBody s_cuts_of) (defScope s_cuts_of) .none kV8 dc8 pm8 an8 cd8 ct8), sl8⟩) (e8 : PySem.W.codeIn K cd8 "cuts_of" = true) (k8 : PySem.W.keepIn K (.ref f8) = true)
    (a9 : PySem.W.nsIn K mainGlobals "behind_source" = some (some (.ref f9))) (l9 : K.lookup f9 = some ⟨oc9, od9, .func (PySem.W.fnOf "behind_source" "behind_source" (defArgs s_behind_source) (defBody s_behind_source) (defScope s_behind_source) .none kV9 dc9 pm9 an9 cd9 ct9), sl9⟩) (e9 : PySem.W.codeIn K cd9 "behind_source" = true) (k9 : PySem.W.keepIn K (.ref f9) = true)
    (a10 : PySem.W.nsIn K mainGlobals "behind_expected" = some (some (.ref f10))) (l10 : K.lookup f10 = some ⟨oc10, od10, .func (PySem.W.fnOf "behind_expected" "behind_expected" (defArgs s_behind_expected) (defBody s_behind_expected) (defScope s_behind_expected) .none kV10 dc10 pm10 an10 cd10 ct10), sl10⟩) (e10 : PySem.W.codeIn K cd10 "behind_expected" = true) (k10 : PySem.W.keepIn K (.ref f10) = true)
    (a11 : PySem.W.nsIn K mainGlobals "refuse_wrong_lines" = some (some (.ref f11))) (l11 : K.lookup f11 = some ⟨oc11, od11, .func (PySem.W.fnOf "refuse_wrong_lines" "refuse_wrong_lines" (defArgs s_refuse_wrong_lines) (defBody s_refuse_wrong_lines) (defScope s_refuse_wrong_lines) .none kV11 dc11 pm11 an11 cd11 ct11), sl11⟩) (e11 : PySem.W.codeIn K cd11 "refuse_wrong_lines" = true) (k11 : PySem.W.keepIn K (.ref f11) = true)
    (a12 : PySem.W.nsIn K mainGlobals "refuse_wrong_indents" = some (some (.ref f12))) (l12 : K.lookup f12 = some ⟨oc12, od12, .func (PySem.W.fnOf "refuse_wrong_indents" "refuse_wrong_indents" (defArgs s_refuse_wrong_indents) (defBody s_refuse_wrong_indents) (defScope s_refuse_wrong_indents) .none kV12 dc12 pm12 an12 cd12 ct12), sl12⟩) (e12 : PySem.W.codeIn K cd12 "refuse_wrong_indents" = true) (k12 : PySem.W.keepIn K (.ref f12) = true)
    (a13 : PySem.W.nsIn K mainGlobals "is_flag" = some (some (.ref f13))) (l13 : K.lookup f13 = some ⟨oc13, od13, .func (PySem.W.fnOf "is_flag" "is_flag" (defArgs s_is_flag) (defBody s_is_flag) (defScope s_is_flag) .none kV13 dc13 pm13 an13 cd13 ct13), sl13⟩) (e13 : PySem.W.codeIn K cd13 "is_flag" = true) (k13 : PySem.W.keepIn K (.ref f13) = true)
    (a14 : PySem.W.nsIn K mainGlobals "require_flags" = some (some (.ref f14))) (l14 : K.lookup f14 = some ⟨oc14, od14, .func (PySem.W.fnOf "require_flags" "require_flags" (defArgs s_require_flags) (defBody s_require_flags) (defScope s_require_flags) .none kV14 dc14 pm14 an14 cd14 ct14), sl14⟩) (e14 : PySem.W.codeIn K cd14 "require_flags" = true) (k14 : PySem.W.keepIn K (.ref f14) = true)
    (a15 : PySem.W.nsIn K mainGlobals "directive_of" = some (some (.ref f15))) (l15 : K.lookup f15 = some ⟨oc15, od15, .func (PySem.W.fnOf "directive_of" "directive_of" (defArgs s_directive_of) (defBody s_directive_of) (defScope s_directive_of) .none kV15 dc15 pm15 an15 cd15 ct15), sl15⟩) (e15 : PySem.W.codeIn K cd15 "directive_of" = true) (k15 : PySem.W.keepIn K (.ref f15) = true)
    (a16 : PySem.W.nsIn K mainGlobals "directive_words" = some (some (.ref f16))) (l16 : K.lookup f16 = some ⟨oc16, od16, .func (PySem.W.fnOf "directive_words" "directive_words" (defArgs s_directive_words) (defBody s_directive_words) (defScope s_directive_words) .none kV16 dc16 pm16 an16 cd16 ct16), sl16⟩) (e16 : PySem.W.codeIn K cd16 "directive_words" = true) (k16 : PySem.W.keepIn K (.ref f16) = true)
    (a17 : PySem.W.nsIn K mainGlobals "is_option_word" = some (some (.ref f17))) (l17 : K.lookup f17 = some ⟨oc17, od17, .func (PySem.W.fnOf "is_option_word" "is_option_word" (defArgs s_is_option_word) (defBody s_is_option_word) (defScope s_is_option_word) .none kV17 dc17 pm17 an17 cd17 ct17), sl17⟩) (e17 : PySem.W.codeIn K cd17 "is_option_word" = true) (k17 : PySem.W.keepIn K (.ref f17) = true)
    (a18 : PySem.W.nsIn K mainGlobals "options_of" = some (some (.ref f18))) (l18 : K.lookup f18 = some ⟨oc18, od18, .func (PySem.W.fnOf "options_of" "options_of" (defArgs s_options_of) (defBody s_options_of) (defScope s_options_of) .none kV18 dc18 pm18 an18 cd18 ct18), sl18⟩) (e18 : PySem.W.codeIn K cd18 "options_of" = true) (k18 : PySem.W.keepIn K (.ref f18) = true)
    (a19 : PySem.W.nsIn K mainGlobals "bare_of" = some (some (.ref f19))) (l19 : K.lookup f19 = some ⟨oc19, od19, .func (PySem.W.fnOf "bare_of" "bare_of" (defArgs s_bare_of) (defBody s_bare_of) (defScope s_bare_of) .none kV19 dc19 pm19 an19 cd19 ct19), sl19⟩) (e19 : PySem.W.codeIn K cd19 "bare_of" = true) (k19 : PySem.W.keepIn K (.ref f19) = true)
    (a20 : PySem.W.nsIn K mainGlobals "bare_line" = some (some (.ref f20))) (l20 : K.lookup f20 = some ⟨oc20, od20, .func (PySem.W.fnOf "bare_line" "bare_line" (defArgs s_bare_line) (defBody s_bare_line) (defScope s_bare_line) .none kV20 dc20 pm20 an20 cd20 ct20), sl20⟩) (e20 : PySem.W.codeIn K cd20 "bare_line" = true) (k20 : PySem.W.keepIn K (.ref f20) = true)
    (a21 : PySem.W.nsIn K mainGlobals "is_remark" = some (some (.ref f21))) (l21 : K.lookup f21 = some ⟨oc21, od21, .func (PySem.W.fnOf "is_remark" "is_remark" (defArgs s_is_remark) (defBody s_is_remark) (defScope s_is_remark) .none kV21 dc21 pm21 an21 cd21 ct21), sl21⟩) (e21 : PySem.W.codeIn K cd21 "is_remark" = true) (k21 : PySem.W.keepIn K (.ref f21) = true)
    (a22 : PySem.W.nsIn K mainGlobals "widened" = some (some (.ref f22))) (l22 : K.lookup f22 = some ⟨oc22, od22, .func (PySem.W.fnOf "widened" "widened" (defArgs s_widened) (defBody s_widened) (defScope s_widened) .none kV22 dc22 pm22 an22 cd22 ct22), sl22⟩) (e22 : PySem.W.codeIn K cd22 "widened" = true) (k22 : PySem.W.keepIn K (.ref f22) = true)
    (a23 : PySem.W.nsIn K mainGlobals "levelled" = some (some (.ref f23))) (l23 : K.lookup f23 = some ⟨oc23, od23, .func (PySem.W.fnOf "levelled" "levelled" (defArgs s_levelled) (defBody s_levelled) (defScope s_levelled) .none kV23 dc23 pm23 an23 cd23 ct23), sl23⟩) (e23 : PySem.W.codeIn K cd23 "levelled" = true) (k23 : PySem.W.keepIn K (.ref f23) = true)
    (a24 : PySem.W.nsIn K mainGlobals "parsed" = some (some (.ref f24))) (l24 : K.lookup f24 = some ⟨oc24, od24, .func (PySem.W.fnOf "parsed" "parsed" (defArgs s_parsed) (defBody s_parsed) (defScope s_parsed) .none kV24 dc24 pm24 an24 cd24 ct24), sl24⟩) (e24 : PySem.W.codeIn K cd24 "parsed" = true) (k24 : PySem.W.keepIn K (.ref f24) = true)
    (a25 : PySem.W.nsIn K mainGlobals "piece_at" = some (some (.ref f25))) (l25 : K.lookup f25 = some ⟨oc25, od25, .func (PySem.W.fnOf "piece_at" "piece_at" (defArgs s_piece_at) (defBody s_piece_at) (defScope s_piece_at) .none kV25 dc25 pm25 an25 cd25 ct25), sl25⟩) (e25 : PySem.W.codeIn K cd25 "piece_at" = true) (k25 : PySem.W.keepIn K (.ref f25) = true)
    (a26 : PySem.W.nsIn K mainGlobals "error_of" = some (some (.ref f26))) (l26 : K.lookup f26 = some ⟨oc26, od26, .func (PySem.W.fnOf "error_of" "error_of" (defArgs s_error_of) (defBody s_error_of) (defScope s_error_of) .none kV26 dc26 pm26 an26 cd26 ct26), sl26⟩) (e26 : PySem.W.codeIn K cd26 "error_of" = true) (k26 : PySem.W.keepIn K (.ref f26) = true)
    (a27 : PySem.W.nsIn K mainGlobals "is_word_sign" = some (some (.ref f27))) (l27 : K.lookup f27 = some ⟨oc27, od27, .func (PySem.W.fnOf "is_word_sign" "is_word_sign" (defArgs s_is_word_sign) (defBody s_is_word_sign) (defScope s_is_word_sign) .none kV27 dc27 pm27 an27 cd27 ct27), sl27⟩) (e27 : PySem.W.codeIn K cd27 "is_word_sign" = true) (k27 : PySem.W.keepIn K (.ref f27) = true)
    (a28 : PySem.W.nsIn K mainGlobals "_law_draws" = some (some (.ref f28))) (l28 : K.lookup f28 = some ⟨oc28, od28, .func (PySem.W.fnOf "_law_draws" "_law_draws" (defArgs s_law_draws) (defBody s_law_draws) (defScope s_law_draws) .none kV28 dc28 pm28 an28 cd28 ct28), sl28⟩) (e28 : PySem.W.codeIn K cd28 "_law_draws" = true) (k28 : PySem.W.keepIn K (.ref f28) = true)
    (a29 : PySem.W.nsIn K mainGlobals "_law_mixed" = some (some (.ref f29))) (l29 : K.lookup f29 = some ⟨oc29, od29, .func (PySem.W.fnOf "_law_mixed" "_law_mixed" (defArgs s_law_mixed) (defBody s_law_mixed) (defScope s_law_mixed) .none kV29 dc29 pm29 an29 cd29 ct29), sl29⟩) (e29 : PySem.W.codeIn K cd29 "_law_mixed" = true) (k29 : PySem.W.keepIn K (.ref f29) = true)
    (a30 : PySem.W.nsIn K mainGlobals "_law_take" = some (some (.ref f30))) (l30 : K.lookup f30 = some ⟨oc30, od30, .func (PySem.W.fnOf "_law_take" "_law_take" (defArgs s_law_take) (defBody s_law_take) (defScope s_law_take) .none kV30 dc30 pm30 an30 cd30 ct30), sl30⟩) (e30 : PySem.W.codeIn K cd30 "_law_take" = true) (k30 : PySem.W.keepIn K (.ref f30) = true)
    (a31 : PySem.W.nsIn K mainGlobals "_law_same" = some (some (.ref f31))) (l31 : K.lookup f31 = some ⟨oc31, od31, .func (PySem.W.fnOf "_law_same" "_law_same" (defArgs s_law_same) (defBody s_law_same) (defScope s_law_same) .none kV31 dc31 pm31 an31 cd31 ct31), sl31⟩) (e31 : PySem.W.codeIn K cd31 "_law_same" = true) (k31 : PySem.W.keepIn K (.ref f31) = true)
    (a32 : PySem.W.nsIn K mainGlobals "_law_pick" = some (some (.ref f32))) (l32 : K.lookup f32 = some ⟨oc32, od32, .func (PySem.W.fnOf "_law_pick" "_law_pick" (defArgs s_law_pick) (defBody s_law_pick) (defScope s_law_pick) .none kV32 dc32 pm32 an32 cd32 ct32), sl32⟩) (e32 : PySem.W.codeIn K cd32 "_law_pick" = true) (k32 : PySem.W.keepIn K (.ref f32) = true)
    (a33 : PySem.W.nsIn K mainGlobals "_law_error" = some (some (.ref f33))) (l33 : K.lookup f33 = some ⟨oc33, od33, .func (PySem.W.fnOf "_law_error" "_law_error" (defArgs s_law_error) (defBody s_law_error) (defScope s_law_error) .none kV33 dc33 pm33 an33 cd33 ct33), sl33⟩) (e33 : PySem.W.codeIn K cd33 "_law_error" = true) (k33 : PySem.W.keepIn K (.ref f33) = true)
    (a34 : PySem.W.nsIn K mainGlobals "_law_shown" = some (some (.ref f34))) (l34 : K.lookup f34 = some ⟨oc34, od34, .func (PySem.W.fnOf "_law_shown" "_law_shown" (defArgs s_law_shown) (defBody s_law_shown) (defScope s_law_shown) .none kV34 dc34 pm34 an34 cd34 ct34), sl34⟩) (e34 : PySem.W.codeIn K cd34 "_law_shown" = true) (k34 : PySem.W.keepIn K (.ref f34) = true)
    (a35 : PySem.W.nsIn K mainGlobals "_law_flags" = some (some (.ref f35))) (l35 : K.lookup f35 = some ⟨oc35, od35, .func (PySem.W.fnOf "_law_flags" "_law_flags" (defArgs s_law_flags) (defBody s_law_flags) (defScope s_law_flags) .none kV35 dc35 pm35 an35 cd35 ct35), sl35⟩) (e35 : PySem.W.codeIn K cd35 "_law_flags" = true) (k35 : PySem.W.keepIn K (.ref f35) = true)
    (a36 : PySem.W.nsIn K mainGlobals "_law_wrong" = some (some (.ref f36))) (l36 : K.lookup f36 = some ⟨oc36, od36, .func (PySem.W.fnOf "_law_wrong" "_law_wrong" (defArgs s_law_wrong) (defBody s_law_wrong) (defScope s_law_wrong) .none kV36 dc36 pm36 an36 cd36 ct36), sl36⟩) (e36 : PySem.W.codeIn K cd36 "_law_wrong" = true) (k36 : PySem.W.keepIn K (.ref f36) = true)
    (a37 : PySem.W.nsIn K mainGlobals "_law_option_words" = some (some (.ref f37))) (l37 : K.lookup f37 = some ⟨oc37, od37, .func (PySem.W.fnOf "_law_option_words" "_law_option_words" (defArgs s_law_option_words) (defBody s_law_option_words) (defScope s_law_option_words) .none kV37 dc37 pm37 an37 cd37 ct37), sl37⟩) (e37 : PySem.W.codeIn K cd37 "_law_option_words" = true) (k37 : PySem.W.keepIn K (.ref f37) = true)
    (a38 : PySem.W.nsIn K mainGlobals "_law_fault" = some (some (.ref f38))) (l38 : K.lookup f38 = some ⟨oc38, od38, .func (PySem.W.fnOf "_law_fault" "_law_fault" (defArgs s_law_fault) (defBody s_law_fault) (defScope s_law_fault) .none kV38 dc38 pm38 an38 cd38 ct38), sl38⟩) (e38 : PySem.W.codeIn K cd38 "_law_fault" = true) (k38 : PySem.W.keepIn K (.ref f38) = true)
    (a39 : PySem.W.nsIn K mainGlobals "_law_one_read" = some (some (.ref f39))) (l39 : K.lookup f39 = some ⟨oc39, od39, .func (PySem.W.fnOf "_law_one_read" "_law_one_read" (defArgs s_law_one_read) (defBody s_law_one_read) (defScope s_law_one_read) .none kV39 dc39 pm39 an39 cd39 ct39), sl39⟩) (e39 : PySem.W.codeIn K cd39 "_law_one_read" = true) (k39 : PySem.W.keepIn K (.ref f39) = true)
    (a40 : PySem.W.nsIn K mainGlobals "_law_read" = some (some (.ref f40))) (l40 : K.lookup f40 = some ⟨oc40, od40, .func (PySem.W.fnOf "_law_read" "_law_read" (defArgs s_law_read) (defBody s_law_read) (defScope s_law_read) .none kV40 dc40 pm40 an40 cd40 ct40), sl40⟩) (e40 : PySem.W.codeIn K cd40 "_law_read" = true) (k40 : PySem.W.keepIn K (.ref f40) = true)
    (a41 : PySem.W.nsIn K mainGlobals "law" = some (some (.ref f41))) (l41 : K.lookup f41 = some ⟨oc41, od41, .func (PySem.W.fnOf "law" "law" (defArgs s_law) (defBody s_law) (defScope s_law) .none kV41 dc41 pm41 an41 (.ref cL) ct41), sl41⟩) (e41 : PySem.W.codeIn K (.ref cL) "law" = true) (k41 : PySem.W.keepIn K (.ref f41) = true)
    (lc : K.lookup cL = some ⟨tcc, tcd, .fields tvs, tcs⟩) (tP : tvs[11]? = some (.ref Pt)) (tn : K.lookup Pt = none) (th : PySem.W.codeHdIn K cL Pt = true)
    (a42 : PySem.W.findIn K (.ref C_BadText) "__init__" = some (some (.ref f42))) (i42 : PySem.W.typeIn K (.ref f42) = some (.type "function")) (l42 : K.lookup f42 = some ⟨oc42, od42, .func (PySem.W.fnOf "__init__" "BadText.__init__" (defArgs s_BadText_init) (defBody s_BadText_init) (defScope s_BadText_init) .none kV42 dc42 pm42 an42 cd42 ct42), sl42⟩) (e42 : PySem.W.codeIn K cd42 "BadText.__init__" = true) (k42 : PySem.W.keepIn K (.ref f42) = true)
    (a43 : PySem.W.findIn K (.ref C_Example) "__init__" = some (some (.ref f43))) (i43 : PySem.W.isFn K (.ref f43) = true) (l43 : K.lookup f43 = some ⟨oc43, od43, .func (PySem.W.fnOf "__init__" "Example.__init__" (defArgs s_Example_init) (defBody s_Example_init) (defScope s_Example_init) (.ref T43) kV43 dc43 pm43 an43 cd43 ct43), sl43⟩) (e43 : PySem.W.codeIn K cd43 "Example.__init__" = true) (k43 : PySem.W.keepIn K (.ref f43) = true)
    (t43 : K.lookup T43 = some ⟨Tc43, Td43, .seq #[.str "" tk43_0] Tn43, Ts43⟩)
    (a44 : PySem.W.findIn K (.ref C_Comment) "__init__" = some (some (.ref f44))) (i44 : PySem.W.isFn K (.ref f44) = true) (l44 : K.lookup f44 = some ⟨oc44, od44, .func (PySem.W.fnOf "__init__" "Comment.__init__" (defArgs s_Comment_init) (defBody s_Comment_init) (defScope s_Comment_init) (.ref T44) kV44 dc44 pm44 an44 cd44 ct44), sl44⟩) (e44 : PySem.W.codeIn K cd44 "Comment.__init__" = true) (k44 : PySem.W.keepIn K (.ref f44) = true)
    (t44 : K.lookup T44 = some ⟨Tc44, Td44, .seq #[.str "" tk44_0] Tn44, Ts44⟩)
    (aC_Example : PySem.W.nsIn K mainGlobals "Example" = some (some (.ref C_Example))) (pg_Example : PySem.W.plainGet K C_Example Str.empty = true) (hd_Example : PySem.W.hasDictIn K C_Example = true) (po_Example : PySem.W.plainOver K C_Example = true) (sa_Example : PySem.W.findIn K (.ref C_Example) "__setattr__" = some (some (.builtin "object.__setattr__"))) (mk_Example : PySem.W.makesIn K C_Example = true) (kc_Example : PySem.W.keepIn K (.ref C_Example) = true) (ha_Example : PySem.W.findIn K (.ref C_Example) "__class__" = some (some (.builtin "object.__class__"))) (hn_Example : PySem.W.specialIn K (.builtin "object.__class__") "__get__" = some (some (.builtin "getset_descriptor.__get__"))) (ht_Example : PySem.W.takesIn K (.builtin "object.__class__") = some true) (hm_Example : PySem.W.mroIn K C_Example (.type "object") = some true)
    (nf_Example_source : PySem.W.findIn K (.ref C_Example) "source" = some none)
    (nf_Example_want : PySem.W.findIn K (.ref C_Example) "want" = some none)
    (nf_Example_error : PySem.W.findIn K (.ref C_Example) "error" = some none)
    (nf_Example_line : PySem.W.findIn K (.ref C_Example) "line" = some none)
    (nf_Example_indent : PySem.W.findIn K (.ref C_Example) "indent" = some none)
    (nf_Example_options : PySem.W.findIn K (.ref C_Example) "options" = some none)
    (nf_Example_bare : PySem.W.findIn K (.ref C_Example) "bare" = some none)
    (aC_Comment : PySem.W.nsIn K mainGlobals "Comment" = some (some (.ref C_Comment))) (pg_Comment : PySem.W.plainGet K C_Comment Str.empty = true) (hd_Comment : PySem.W.hasDictIn K C_Comment = true) (po_Comment : PySem.W.plainOver K C_Comment = true) (sa_Comment : PySem.W.findIn K (.ref C_Comment) "__setattr__" = some (some (.builtin "object.__setattr__"))) (mk_Comment : PySem.W.makesIn K C_Comment = true) (kc_Comment : PySem.W.keepIn K (.ref C_Comment) = true) (ha_Comment : PySem.W.findIn K (.ref C_Comment) "__class__" = some (some (.builtin "object.__class__"))) (hn_Comment : PySem.W.specialIn K (.builtin "object.__class__") "__get__" = some (some (.builtin "getset_descriptor.__get__"))) (ht_Comment : PySem.W.takesIn K (.builtin "object.__class__") = some true) (hm_Comment : PySem.W.mroIn K C_Comment (.type "object") = some true)
    (nf_Comment_source : PySem.W.findIn K (.ref C_Comment) "source" = some none)
    (nf_Comment_want : PySem.W.findIn K (.ref C_Comment) "want" = some none)
    (nf_Comment_line : PySem.W.findIn K (.ref C_Comment) "line" = some none)
    (nf_Comment_indent : PySem.W.findIn K (.ref C_Comment) "indent" = some none)
    (aC_BadText : PySem.W.nsIn K mainGlobals "BadText" = some (some (.ref C_BadText))) (xL_BadText : K.lookup C_BadText = some (excClassObj en_BadText eq_BadText C_BadText N_BadText eb_BadText [.ref C_PromptError, .type "ValueError", .type "Exception", .type "BaseException", .type "object"] true em_BadText es_BadText ea_BadText ec_BadText ed_BadText k0_BadText k1_BadText k2_BadText k3_BadText k5_BadText "ValueError.__new__"))
    (sa_BadText : PySem.W.findIn K (.ref C_BadText) "__setattr__" = some (some (.builtin "object.__setattr__"))) (ga_BadText : PySem.W.findIn K (.ref C_BadText) "__getattribute__" = some (some (.builtin "BaseException.__getattribute__"))) (gg_BadText : PySem.W.findIn K (.ref C_BadText) "__getattr__" = some none) (kc_BadText : PySem.W.keepIn K (.ref C_BadText) = true) (bE_BadText : PySem.W.subIn K (.ref C_BadText) (.type "BaseException") = some true) (tE_BadText : PySem.W.typeIn K (.ref C_BadText) = some (.type "type")) (hd_BadText : PySem.W.hasDictIn K C_BadText = true) (iE_BadText : PySem.W.isClsIn K C_BadText = true) (sE_BadText : PySem.W.subIn K (.ref C_BadText) (.ref C_BadText) = some true) (ha_BadText : PySem.W.findIn K (.ref C_BadText) "__class__" = some (some (.builtin "object.__class__"))) (hn_BadText : PySem.W.specialIn K (.builtin "object.__class__") "__get__" = some (some (.builtin "getset_descriptor.__get__"))) (ht_BadText : PySem.W.takesIn K (.builtin "object.__class__") = some true) (hm_BadText : PySem.W.mroIn K C_BadText (.type "object") = some true)
    (nf_BadText_line : PySem.W.findIn K (.ref C_BadText) "line" = some none)
    (nf_BadText_reason : PySem.W.findIn K (.ref C_BadText) "reason" = some none)
    (nf_BadText_found : PySem.W.findIn K (.ref C_BadText) "found" = some none)
    (y_AHEAD : PySem.W.nsIn K mainGlobals "AHEAD" = some (some (.int 4 t_AHEAD)))
    (y_BLANKS : PySem.W.nsIn K mainGlobals "BLANKS" = some (some (.str " \t" t_BLANKS)))
    (y_FLAGS : PySem.W.nsIn K mainGlobals "FLAGS" = some (some (.ref a_FLAGS))) (x_FLAGS : K.lookup a_FLAGS = some ⟨.type "tuple", ad_FLAGS, .seq #[.str "DONT_ACCEPT_TRUE_FOR_1" t_FLAGS0, .str "DONT_ACCEPT_BLANKLINE" t_FLAGS1, .str "NORMALIZE_WHITESPACE" t_FLAGS2, .str "ELLIPSIS" t_FLAGS3, .str "SKIP" t_FLAGS4, .str "IGNORE_EXCEPTION_DETAIL" t_FLAGS5, .str "REPORT_ONLY_FIRST_FAILURE" t_FLAGS6, .str "FAIL_FAST" t_FLAGS7] an_FLAGS, as_FLAGS⟩)
    (y_FURTHER : PySem.W.nsIn K mainGlobals "FURTHER" = some (some (.str "..." t_FURTHER)))
    (y_HEADERS : PySem.W.nsIn K mainGlobals "HEADERS" = some (some (.ref a_HEADERS))) (x_HEADERS : K.lookup a_HEADERS = some ⟨.type "tuple", ad_HEADERS, .seq #[.str "Traceback (most recent call last):" t_HEADERS0, .str "Traceback (innermost last):" t_HEADERS1] an_HEADERS, as_HEADERS⟩)
    (y_MARK : PySem.W.nsIn K mainGlobals "MARK" = some (some (.str "doctest:" t_MARK)))
    (y_PROMPT : PySem.W.nsIn K mainGlobals "PROMPT" = some (some (.str ">>>" t_PROMPT)))
    (y_TAB : PySem.W.nsIn K mainGlobals "TAB" = some (some (.int 8 t_TAB)))
    (z_all : PySem.W.nsIn K mainGlobals "all" = some none)
    (z_bool : PySem.W.nsIn K mainGlobals "bool" = some none)
    (z_dict : PySem.W.nsIn K mainGlobals "dict" = some none)
    (z_int : PySem.W.nsIn K mainGlobals "int" = some none)
    (z_isinstance : PySem.W.nsIn K mainGlobals "isinstance" = some none)
    (z_len : PySem.W.nsIn K mainGlobals "len" = some none)
    (z_list : PySem.W.nsIn K mainGlobals "list" = some none)
    (z_max : PySem.W.nsIn K mainGlobals "max" = some none)
    (z_min : PySem.W.nsIn K mainGlobals "min" = some none)
    (z_range : PySem.W.nsIn K mainGlobals "range" = some none)
    (z_sorted : PySem.W.nsIn K mainGlobals "sorted" = some none)
    (z_str : PySem.W.nsIn K mainGlobals "str" = some none)
    (z_tuple : PySem.W.nsIn K mainGlobals "tuple" = some none)
    (z_zip : PySem.W.nsIn K mainGlobals "zip" = some none)
    (a_zP : PySem.W.nsIn K mainGlobals "PromptError" = some (some (.ref C_PromptError)))
    (z_EC : PySem.W.subIn K (.ref C_Example) (.ref C_Comment) = some false)
    (z_EE : PySem.W.subIn K (.ref C_Example) (.ref C_Example) = some true)
    (z_iC : PySem.W.isClsIn K C_Comment = true)
    (z_tC : PySem.W.typeIn K (.ref C_Comment) = some (.type "type"))
    (z_Es : PySem.W.subIn K (.ref C_Example) (.type "str") = some false)
    (z_Cs : PySem.W.subIn K (.ref C_Comment) (.type "str") = some false)
    (z_PE : PySem.W.kitOne K (.ref C_BadText) (.ref C_PromptError) = some true)
    :
    LamX.LawAtS l w K CX0 10 63 "script" mg fa h := by
  have e := hfa.symm.trans (PySem.W.mg_of X G a41)
  cases e
  have F0 : Fn K "held" s_held [] _ _ := Fn.mk' l0 e0 k0 (.inl ⟨rfl, rfl⟩)
  have F1 : Fn K "kept_lines" s_kept_lines [] _ _ := Fn.mk' l1 e1 k1 (.inl ⟨rfl, rfl⟩)
  have F2 : Fn K "lines_of" s_lines_of [] _ _ := Fn.mk' l2 e2 k2 (.inl ⟨rfl, rfl⟩)
  have F3 : Fn K "fed" s_fed [] _ _ := Fn.mk' l3 e3 k3 (.inl ⟨rfl, rfl⟩)
  have F4 : Fn K "indent_of" s_indent_of [] _ _ := Fn.mk' l4 e4 k4 (.inl ⟨rfl, rfl⟩)
  have F5 : Fn K "is_blank" s_is_blank [] _ _ := Fn.mk' l5 e5 k5 (.inl ⟨rfl, rfl⟩)
  have F6 : Fn K "words_of" s_words_of [] _ _ := Fn.mk' l6 e6 k6 (.inl ⟨rfl, rfl⟩)
  have F7 : Fn K "begins" s_begins [] _ _ := Fn.mk' l7 e7 k7 (.inl ⟨rfl, rfl⟩)
  have F8 : Fn K "cuts_of" s_cuts_of [] _ _ := Fn.mk' l8 e8 k8 (.inl ⟨rfl, rfl⟩)
  have F9 : Fn K "behind_source" s_behind_source [] _ _ := Fn.mk' l9 e9 k9 (.inl ⟨rfl, rfl⟩)
  have F10 : Fn K "behind_expected" s_behind_expected [] _ _ := Fn.mk' l10 e10 k10 (.inl ⟨rfl, rfl⟩)
  have F11 : Fn K "refuse_wrong_lines" s_refuse_wrong_lines [] _ _ := Fn.mk' l11 e11 k11 (.inl ⟨rfl, rfl⟩)
  have F12 : Fn K "refuse_wrong_indents" s_refuse_wrong_indents [] _ _ := Fn.mk' l12 e12 k12 (.inl ⟨rfl, rfl⟩)
  have F13 : Fn K "is_flag" s_is_flag [] _ _ := Fn.mk' l13 e13 k13 (.inl ⟨rfl, rfl⟩)
  have F14 : Fn K "require_flags" s_require_flags [] _ _ := Fn.mk' l14 e14 k14 (.inl ⟨rfl, rfl⟩)
  have F15 : Fn K "directive_of" s_directive_of [] _ _ := Fn.mk' l15 e15 k15 (.inl ⟨rfl, rfl⟩)
  have F16 : Fn K "directive_words" s_directive_words [] _ _ := Fn.mk' l16 e16 k16 (.inl ⟨rfl, rfl⟩)
  have F17 : Fn K "is_option_word" s_is_option_word [] _ _ := Fn.mk' l17 e17 k17 (.inl ⟨rfl, rfl⟩)
  have F18 : Fn K "options_of" s_options_of [] _ _ := Fn.mk' l18 e18 k18 (.inl ⟨rfl, rfl⟩)
  have F19 : Fn K "bare_of" s_bare_of [] _ _ := Fn.mk' l19 e19 k19 (.inl ⟨rfl, rfl⟩)
  have F20 : Fn K "bare_line" s_bare_line [] _ _ := Fn.mk' l20 e20 k20 (.inl ⟨rfl, rfl⟩)
  have F21 : Fn K "is_remark" s_is_remark [] _ _ := Fn.mk' l21 e21 k21 (.inl ⟨rfl, rfl⟩)
  have F22 : Fn K "widened" s_widened [] _ _ := Fn.mk' l22 e22 k22 (.inl ⟨rfl, rfl⟩)
  have F23 : Fn K "levelled" s_levelled [] _ _ := Fn.mk' l23 e23 k23 (.inl ⟨rfl, rfl⟩)
  have F24 : Fn K "parsed" s_parsed [] _ _ := Fn.mk' l24 e24 k24 (.inl ⟨rfl, rfl⟩)
  have F25 : Fn K "piece_at" s_piece_at [] _ _ := Fn.mk' l25 e25 k25 (.inl ⟨rfl, rfl⟩)
  have F26 : Fn K "error_of" s_error_of [] _ _ := Fn.mk' l26 e26 k26 (.inl ⟨rfl, rfl⟩)
  have F27 : Fn K "is_word_sign" s_is_word_sign [] _ _ := Fn.mk' l27 e27 k27 (.inl ⟨rfl, rfl⟩)
  have F28 : Fn K "_law_draws" s_law_draws [] _ _ := Fn.mk' l28 e28 k28 (.inl ⟨rfl, rfl⟩)
  have F29 : Fn K "_law_mixed" s_law_mixed [] _ _ := Fn.mk' l29 e29 k29 (.inl ⟨rfl, rfl⟩)
  have F30 : Fn K "_law_take" s_law_take [] _ _ := Fn.mk' l30 e30 k30 (.inl ⟨rfl, rfl⟩)
  have F31 : Fn K "_law_same" s_law_same [] _ _ := Fn.mk' l31 e31 k31 (.inl ⟨rfl, rfl⟩)
  have F32 : Fn K "_law_pick" s_law_pick [] _ _ := Fn.mk' l32 e32 k32 (.inl ⟨rfl, rfl⟩)
  have F33 : Fn K "_law_error" s_law_error [] _ _ := Fn.mk' l33 e33 k33 (.inl ⟨rfl, rfl⟩)
  have F34 : Fn K "_law_shown" s_law_shown [] _ _ := Fn.mk' l34 e34 k34 (.inl ⟨rfl, rfl⟩)
  have F35 : Fn K "_law_flags" s_law_flags [] _ _ := Fn.mk' l35 e35 k35 (.inl ⟨rfl, rfl⟩)
  have F36 : Fn K "_law_wrong" s_law_wrong [] _ _ := Fn.mk' l36 e36 k36 (.inl ⟨rfl, rfl⟩)
  have F37 : Fn K "_law_option_words" s_law_option_words [] _ _ := Fn.mk' l37 e37 k37 (.inl ⟨rfl, rfl⟩)
  have F38 : Fn K "_law_fault" s_law_fault [] _ _ := Fn.mk' l38 e38 k38 (.inl ⟨rfl, rfl⟩)
  have F39 : Fn K "_law_one_read" s_law_one_read [] _ _ := Fn.mk' l39 e39 k39 (.inl ⟨rfl, rfl⟩)
  have F40 : Fn K "_law_read" s_law_read [] _ _ := Fn.mk' l40 e40 k40 (.inl ⟨rfl, rfl⟩)
  have F41 : Fn K "law" s_law [] _ _ := Fn.mk' l41 e41 k41 (.inl ⟨rfl, rfl⟩)
  have F42 : FunD K "__init__" "BadText.__init__" (defArgs s_BadText_init) (defBody s_BadText_init) (defScope s_BadText_init) [] [] _ _ := ⟨⟨_, _, _, _, _, _, _, _, _, _, rfl, l42, e42, .inl ⟨rfl, rfl⟩, .inl rfl⟩, k42⟩
  have F43 : FunD K "__init__" "Example.__init__" (defArgs s_Example_init) (defBody s_Example_init) (defScope s_Example_init) [.str ""] [] _ _ := ⟨⟨_, _, _, _, _, _, _, _, _, _, rfl, l43, e43, .inr ⟨by simp, T43, _, _, _, rfl, t43, rfl, (.cons ⟨_, rfl⟩ .nil)⟩, .inl rfl⟩, k43⟩
  have F44 : FunD K "__init__" "Comment.__init__" (defArgs s_Comment_init) (defBody s_Comment_init) (defScope s_Comment_init) [.str ""] [] _ _ := ⟨⟨_, _, _, _, _, _, _, _, _, _, rfl, l44, e44, .inr ⟨by simp, T44, _, _, _, rfl, t44, rfl, (.cons ⟨_, rfl⟩ .nil)⟩, .inl rfl⟩, k44⟩
  have T_Example : Txt_Example K mg C_Example := ⟨⟨pg_Example, hd_Example, po_Example, sa_Example⟩, PySem.W.mg_of X G aC_Example, ha_Example, hn_Example, ht_Example, hm_Example, kit_self K C_Example, nf_Example_source, nf_Example_want, nf_Example_error, nf_Example_line, nf_Example_indent, nf_Example_options, nf_Example_bare⟩
  have T_Comment : Txt_Comment K mg C_Comment := ⟨⟨pg_Comment, hd_Comment, po_Comment, sa_Comment⟩, PySem.W.mg_of X G aC_Comment, ha_Comment, hn_Comment, ht_Comment, hm_Comment, kit_self K C_Comment, nf_Comment_source, nf_Comment_want, nf_Comment_line, nf_Comment_indent⟩
  have T_BadText : Err_BadText K mg C_BadText := ⟨⟨⟨en_BadText, eq_BadText, N_BadText, eb_BadText, _, em_BadText, es_BadText, ea_BadText, ec_BadText, ed_BadText, k0_BadText, k1_BadText, k2_BadText, k3_BadText, k5_BadText, xL_BadText, rfl⟩, sa_BadText, bE_BadText, tE_BadText, kc_BadText⟩, PySem.W.mg_of X G aC_BadText, ⟨ga_BadText, gg_BadText, bE_BadText, hd_BadText⟩, ⟨ga_BadText, gg_BadText, bE_BadText, hd_BadText, ha_BadText, hn_BadText, ht_BadText, hm_BadText⟩, iE_BadText, sE_BadText, nf_BadText_line, nf_BadText_reason, nf_BadText_found⟩
  have m_all : mg "all" = none := PySem.W.mg_none_of X G z_all
  have m_bool : mg "bool" = none := PySem.W.mg_none_of X G z_bool
  have m_dict : mg "dict" = none := PySem.W.mg_none_of X G z_dict
  have m_int : mg "int" = none := PySem.W.mg_none_of X G z_int
  have m_isinstance : mg "isinstance" = none := PySem.W.mg_none_of X G z_isinstance
  have m_len : mg "len" = none := PySem.W.mg_none_of X G z_len
  have m_list : mg "list" = none := PySem.W.mg_none_of X G z_list
  have m_max : mg "max" = none := PySem.W.mg_none_of X G z_max
  have m_min : mg "min" = none := PySem.W.mg_none_of X G z_min
  have m_range : mg "range" = none := PySem.W.mg_none_of X G z_range
  have m_sorted : mg "sorted" = none := PySem.W.mg_none_of X G z_sorted
  have m_str : mg "str" = none := PySem.W.mg_none_of X G z_str
  have m_tuple : mg "tuple" = none := PySem.W.mg_none_of X G z_tuple
  have m_zip : mg "zip" = none := PySem.W.mg_none_of X G z_zip
  have c_AHEAD := PySem.W.mg_of X G y_AHEAD
  have c_BLANKS := PySem.W.mg_of X G y_BLANKS
  have c_FLAGS := PySem.W.mg_of X G y_FLAGS
  have q_FLAGS : ∀ H, SqT K H a_FLAGS (v_FLAGS.map V.str) := fun H => .inr ⟨_, _, _, x_FLAGS, rfl, rfl, by show 8 ≤ sizeLine; decide, (.cons ⟨_, rfl⟩ (.cons ⟨_, rfl⟩ (.cons ⟨_, rfl⟩ (.cons ⟨_, rfl⟩ (.cons ⟨_, rfl⟩ (.cons ⟨_, rfl⟩ (.cons ⟨_, rfl⟩ (.cons ⟨_, rfl⟩ .nil))))))))⟩
  have c_FURTHER := PySem.W.mg_of X G y_FURTHER
  have c_HEADERS := PySem.W.mg_of X G y_HEADERS
  have q_HEADERS : ∀ H, SqT K H a_HEADERS (v_HEADERS.map V.str) := fun H => .inr ⟨_, _, _, x_HEADERS, rfl, rfl, by show 2 ≤ sizeLine; decide, (.cons ⟨_, rfl⟩ (.cons ⟨_, rfl⟩ .nil))⟩
  have c_MARK := PySem.W.mg_of X G y_MARK
  have c_PROMPT := PySem.W.mg_of X G y_PROMPT
  have c_TAB := PySem.W.mg_of X G y_TAB
  have zP := PySem.W.mg_of X G a_zP
  refine ⟨PySem.W.fnOf "law" "law" (defArgs s_law) (defBody s_law) (defScope s_law) .none kV41 dc41 pm41 an41 (.ref cL) ct41, [(cL, Pt)], sp_law K Pt, fun p hp => ?_, fun p hp => ?_, fun p hp => ?_, fun s v => .of_eq rfl, fun H a ns hl _ hT hS => ⟨a, ns, rfl, hS, hl, hT _ (List.mem_singleton.mpr rfl), fun _ => rfl⟩, fun base _ _ hTB => ?_⟩
  · rw [List.mem_singleton.mp hp]
    exact own cL Pt _ _ _ _ _ _ l41 rfl rfl lc tP
  · rw [List.mem_singleton.mp hp]
    exact tn
  · rw [List.mem_singleton.mp hp]
    exact PySem.W.codeHd_of_K X th
  have TB := hTB _ (List.mem_singleton.mpr rfl)
  have O_held : Own l.prog w K mg base "held" 1 ["thing"] [] (sp_held) := by
    exact ⟨_, _, [], ok_held F0 m_dict m_isinstance m_list m_tuple, PySem.W.mg_of X G a0, F0.kp, F0.bindsN (ps := ["thing"]) (fun _ _ _ _ _ _ us hl => match us, hl with | [_], _ => rfl), .nil⟩
  have O_kept_lines : Own l.prog w K mg base "kept_lines" 1 ["text"] [] (sp_kept_lines) := by
    exact ⟨_, _, [], ok_kept_lines F1, PySem.W.mg_of X G a1, F1.kp, F1.bindsN (ps := ["text"]) (fun _ _ _ _ _ _ us hl => match us, hl with | [_], _ => rfl), .nil⟩
  have O_fed : Own l.prog w K mg base "fed" 1 ["text"] [] (sp_fed) := by
    exact ⟨_, _, [], ok_fed F3, PySem.W.mg_of X G a3, F3.kp, F3.bindsN (ps := ["text"]) (fun _ _ _ _ _ _ us hl => match us, hl with | [_], _ => rfl), .nil⟩
  have O_indent_of : Own l.prog w K mg base "indent_of" 1 ["line"] [] (sp_indent_of) := by
    exact ⟨_, _, [], ok_indent_of F4 m_len, PySem.W.mg_of X G a4, F4.kp, F4.bindsN (ps := ["line"]) (fun _ _ _ _ _ _ us hl => match us, hl with | [_], _ => rfl), .nil⟩
  have O_is_blank : Own l.prog w K mg base "is_blank" 1 ["line"] [] (sp_is_blank) := by
    exact ⟨_, _, [], ok_is_blank F5 c_BLANKS, PySem.W.mg_of X G a5, F5.kp, F5.bindsN (ps := ["line"]) (fun _ _ _ _ _ _ us hl => match us, hl with | [_], _ => rfl), .nil⟩
  have O_words_of : Own l.prog w K mg base "words_of" 1 ["text"] [] (sp_words_of) := by
    exact ⟨_, _, [], ok_words_of F6, PySem.W.mg_of X G a6, F6.kp, F6.bindsN (ps := ["text"]) (fun _ _ _ _ _ _ us hl => match us, hl with | [_], _ => rfl), .nil⟩
  have O_begins : Own l.prog w K mg base "begins" 1 ["line", "prompt"] [] (sp_begins) := by
    exact ⟨_, _, [], ok_begins F7, PySem.W.mg_of X G a7, F7.kp, F7.bindsN (ps := ["line", "prompt"]) (fun _ _ _ _ _ _ us hl => match us, hl with | [_, _], _ => rfl), .nil⟩
  have O_is_flag : Own l.prog w K mg base "is_flag" 1 ["thing"] [] (sp_is_flag) := by
    exact ⟨_, _, [], ok_is_flag F13 m_isinstance m_str c_FLAGS q_FLAGS, PySem.W.mg_of X G a13, F13.kp, F13.bindsN (ps := ["thing"]) (fun _ _ _ _ _ _ us hl => match us, hl with | [_], _ => rfl), .nil⟩
  have O_directive_of : Own l.prog w K mg base "directive_of" 1 ["line"] [] (sp_directive_of) := by
    exact ⟨_, _, [], ok_directive_of F15 m_max c_BLANKS c_MARK, PySem.W.mg_of X G a15, F15.kp, F15.bindsN (ps := ["line"]) (fun _ _ _ _ _ _ us hl => match us, hl with | [_], _ => rfl), .nil⟩
  have O_widened : Own l.prog w K mg base "widened" 1 ["text"] [] (sp_widened) := by
    exact ⟨_, _, [], ok_widened F22 c_TAB, PySem.W.mg_of X G a22, F22.kp, F22.bindsN (ps := ["text"]) (fun _ _ _ _ _ _ us hl => match us, hl with | [_], _ => rfl), .nil⟩
  have O_is_word_sign : Own l.prog w K mg base "is_word_sign" 1 ["sign"] [] (sp_is_word_sign) := by
    exact ⟨_, _, [], ok_is_word_sign F27, PySem.W.mg_of X G a27, F27.kp, F27.bindsN (ps := ["sign"]) (fun _ _ _ _ _ _ us hl => match us, hl with | [_], _ => rfl), .nil⟩
  have O_law_draws : Own l.prog w K mg base "_law_draws" 1 ["script"] [] (sp_law_draws K) := by
    exact ⟨_, _, [], ok_law_draws F28, PySem.W.mg_of X G a28, F28.kp, F28.bindsN (ps := ["script"]) (fun _ _ _ _ _ _ us hl => match us, hl with | [_], _ => rfl), .nil⟩
  have O_law_mixed : Own l.prog w K mg base "_law_mixed" 1 ["seed", "k"] [] (sp_law_mixed) := by
    exact ⟨_, _, [], ok_law_mixed F29, PySem.W.mg_of X G a29, F29.kp, F29.bindsN (ps := ["seed", "k"]) (fun _ _ _ _ _ _ us hl => match us, hl with | [_, _], _ => rfl), .nil⟩
  have O_law_error : Own l.prog w K mg base "_law_error" 1 ["lines"] [] (sp_law_error) := by
    exact ⟨_, _, [], ok_law_error F33 m_len m_range, PySem.W.mg_of X G a33, F33.kp, F33.bindsN (ps := ["lines"]) (fun _ _ _ _ _ _ us hl => match us, hl with | [_], _ => rfl), .nil⟩
  have O_law_shown : Own l.prog w K mg base "_law_shown" 1 ["piece"] [] (sp_law_shown C_Example C_Comment) := by
    exact ⟨_, _, [], ok_law_shown F34 T_Example T_Comment m_isinstance m_list m_sorted m_str z_EC z_EE z_iC z_tC z_Es z_Cs, PySem.W.mg_of X G a34, F34.kp, F34.bindsN (ps := ["piece"]) (fun _ _ _ _ _ _ us hl => match us, hl with | [_], _ => rfl), .nil⟩
  have O_law_flags : Own l.prog w K mg base "_law_flags" 1 [] [] (sp_law_flags) := by
    exact ⟨_, _, [], ok_law_flags F35, PySem.W.mg_of X G a35, F35.kp, F35.bindsN (ps := []) (fun _ _ _ _ _ _ us hl => match us, hl with | [], _ => rfl), .nil⟩
  have L_law_wrong : OwnL K mg "_law_wrong" s_law_wrong := ⟨_, _, F36, PySem.W.mg_of X G a36⟩
  have O_law_option_words : Own l.prog w K mg base "_law_option_words" 1 ["line"] [] (sp_law_option_words) := by
    exact ⟨_, _, [], ok_law_option_words F37 m_len m_range, PySem.W.mg_of X G a37, F37.kp, F37.bindsN (ps := ["line"]) (fun _ _ _ _ _ _ us hl => match us, hl with | [_], _ => rfl), .nil⟩
  have O_law_fault : Own l.prog w K mg base "_law_fault" 1 ["lines", "many", "indent"] [] (sp_law_fault) := by
    exact ⟨_, _, [], ok_law_fault F38 m_int m_len m_range, PySem.W.mg_of X G a38, F38.kp, F38.bindsN (ps := ["lines", "many", "indent"]) (fun _ _ _ _ _ _ us hl => match us, hl with | [_, _, _], _ => rfl), .nil⟩
  have O_lines_of : Own l.prog w K mg base "lines_of" 2 ["text"] [] (sp_lines_of) := by
    exact ⟨_, _, [], ok_lines_of F2 O_kept_lines, PySem.W.mg_of X G a2, F2.kp, F2.bindsN (ps := ["text"]) (fun _ _ _ _ _ _ us hl => match us, hl with | [_], _ => rfl), .nil⟩
  have O_behind_source : Own l.prog w K mg base "behind_source" 2 ["lines", "at"] [] (sp_behind_source) := by
    exact ⟨_, _, [], ok_behind_source F9 O_begins m_len c_FURTHER, PySem.W.mg_of X G a9, F9.kp, F9.bindsN (ps := ["lines", "at"]) (fun _ _ _ _ _ _ us hl => match us, hl with | [_, _], _ => rfl), .nil⟩
  have O_behind_expected : Own l.prog w K mg base "behind_expected" 2 ["lines", "at"] [] (sp_behind_expected) := by
    exact ⟨_, _, [], ok_behind_expected F10 O_is_blank O_begins m_len c_PROMPT, PySem.W.mg_of X G a10, F10.kp, F10.bindsN (ps := ["lines", "at"]) (fun _ _ _ _ _ _ us hl => match us, hl with | [_, _], _ => rfl), .nil⟩
  have O_require_flags : Own l.prog w K mg base "require_flags" 2 ["flags"] [] (sp_require_flags) := by
    exact ⟨_, _, [], ok_require_flags F14 O_is_flag, PySem.W.mg_of X G a14, F14.kp, F14.bindsN (ps := ["flags"]) (fun _ _ _ _ _ _ us hl => match us, hl with | [_], _ => rfl), .nil⟩
  have O_directive_words : Own l.prog w K mg base "directive_words" 2 ["line"] [] (sp_directive_words) := by
    exact ⟨_, _, [], ok_directive_words F16 O_words_of O_directive_of, PySem.W.mg_of X G a16, F16.kp, F16.bindsN (ps := ["line"]) (fun _ _ _ _ _ _ us hl => match us, hl with | [_], _ => rfl), .nil⟩
  have O_is_option_word : Own l.prog w K mg base "is_option_word" 2 ["word"] [] (sp_is_option_word) := by
    exact ⟨_, _, [], ok_is_option_word F17 O_is_flag, PySem.W.mg_of X G a17, F17.kp, F17.bindsN (ps := ["word"]) (fun _ _ _ _ _ _ us hl => match us, hl with | [_], _ => rfl), .nil⟩
  have O_bare_line : Own l.prog w K mg base "bare_line" 2 ["line"] [] (sp_bare_line) := by
    exact ⟨_, _, [], ok_bare_line F20 O_directive_of c_BLANKS, PySem.W.mg_of X G a20, F20.kp, F20.bindsN (ps := ["line"]) (fun _ _ _ _ _ _ us hl => match us, hl with | [_], _ => rfl), .nil⟩
  have O_levelled : Own l.prog w K mg base "levelled" 2 ["text"] [] (sp_levelled) := by
    exact ⟨_, _, [], ok_levelled F23 O_widened O_is_blank O_indent_of m_min, PySem.W.mg_of X G a23, F23.kp, F23.bindsN (ps := ["text"]) (fun _ _ _ _ _ _ us hl => match us, hl with | [_], _ => rfl), .nil⟩
  have O_error_of : Own l.prog w K mg base "error_of" 2 ["want"] [] (sp_error_of) := by
    exact ⟨_, _, [], ok_error_of F26 O_kept_lines O_is_word_sign m_len m_range c_HEADERS q_HEADERS, PySem.W.mg_of X G a26, F26.kp, F26.bindsN (ps := ["want"]) (fun _ _ _ _ _ _ us hl => match us, hl with | [_], _ => rfl), .nil⟩
  have O_law_take : Own l.prog w K mg base "_law_take" 2 ["draws", "size"] [] (sp_law_take) := by
    exact ⟨_, _, [], ok_law_take F30 O_law_mixed m_len, PySem.W.mg_of X G a30, F30.kp, F30.bindsN (ps := ["draws", "size"]) (fun _ _ _ _ _ _ us hl => match us, hl with | [_, _], _ => rfl), .nil⟩
  have O_law_one_read : Own l.prog w K mg base "_law_one_read" 2 ["lines", "many", "number"] [] (sp_law_one_read) := by
    exact ⟨_, _, [], ok_law_one_read F39 O_law_fault O_law_option_words O_law_flags O_law_error m_len m_sorted, PySem.W.mg_of X G a39, F39.kp, F39.bindsN (ps := ["lines", "many", "number"]) (fun _ _ _ _ _ _ us hl => match us, hl with | [_, _, _], _ => rfl), .nil⟩
  have O_BadText_init : OwnE l.prog w K mg base "BadText" C_BadText 2 ["self", "line", "reason", "found"] (sp_BadText_init C_BadText) := by
    exact ⟨_, _, T_BadText.oex, a42, i42, ok_BadText_init F42 T_BadText O_held, F42.bindsN (ps := ["self", "line", "reason", "found"]) (fun _ _ _ _ _ _ us hl => match us, hl with | [_, _, _, _], _ => rfl), T_BadText.mgC⟩
  have O_Comment_init : OwnC l.prog w K mg base "Comment" C_Comment 2 ["self", "source", "want", "line", "indent"] ["line", "indent"] 2 (sp_Comment_init C_Comment) := by
    exact ⟨_, _, _, ⟨mk_Comment, a44, i44, kc_Comment⟩, ok_Comment_init F44 T_Comment O_fed, ⟨fun s us ws X l1 l2 => match us, ws, l1, l2 with | [_, _, _], [_, _], _, _ => bnd_items X t44 rfl ⟨_, rfl, rfl⟩, fun r1 r2 => vals_app r1 r2⟩, PySem.W.mg_of X G aC_Comment⟩
  have O_cuts_of : Own l.prog w K mg base "cuts_of" 3 ["lines"] [] (sp_cuts_of) := by
    exact ⟨_, _, [], ok_cuts_of F8 O_begins O_behind_source O_behind_expected m_len c_PROMPT, PySem.W.mg_of X G a8, F8.kp, F8.bindsN (ps := ["lines"]) (fun _ _ _ _ _ _ us hl => match us, hl with | [_], _ => rfl), .nil⟩
  have O_bare_of : Own l.prog w K mg base "bare_of" 3 ["source"] [] (sp_bare_of) := by
    exact ⟨_, _, [], ok_bare_of F19 O_lines_of O_bare_line, PySem.W.mg_of X G a19, F19.kp, F19.bindsN (ps := ["source"]) (fun _ _ _ _ _ _ us hl => match us, hl with | [_], _ => rfl), .nil⟩
  have O_is_remark : Own l.prog w K mg base "is_remark" 3 ["source"] [] (sp_is_remark) := by
    exact ⟨_, _, [], ok_is_remark F21 O_lines_of O_is_blank m_all c_BLANKS, PySem.W.mg_of X G a21, F21.kp, F21.bindsN (ps := ["source"]) (fun _ _ _ _ _ _ us hl => match us, hl with | [_], _ => rfl), .nil⟩
  have O_law_pick : Own l.prog w K mg base "_law_pick" 3 ["draws", "things"] [] (sp_law_pick) := by
    exact ⟨_, _, [], ok_law_pick F32 O_law_take m_len, PySem.W.mg_of X G a32, F32.kp, F32.bindsN (ps := ["draws", "things"]) (fun _ _ _ _ _ _ us hl => match us, hl with | [_, _], _ => rfl), .nil⟩
  have O_law_read : Own l.prog w K mg base "_law_read" 3 ["text"] [] (sp_law_read) := by
    exact ⟨_, _, [], ok_law_read F40 O_law_one_read m_int m_len, PySem.W.mg_of X G a40, F40.kp, F40.bindsN (ps := ["text"]) (fun _ _ _ _ _ _ us hl => match us, hl with | [_], _ => rfl), .nil⟩
  have O_refuse_wrong_indents : OwnX l.prog w K mg base "refuse_wrong_indents" 4 ["lines", "start", "end", "ahead"] [] (sp_refuse_wrong_indents C_BadText) := by
    exact ⟨_, _, [], ok_refuse_wrong_indents F12 T_BadText O_BadText_init m_range, PySem.W.mg_of X G a12, F12.kp, F12.bindsN (ps := ["lines", "start", "end", "ahead"]) (fun _ _ _ _ _ _ us hl => match us, hl with | [_, _, _, _], _ => rfl), .nil⟩
  have O_options_of : OwnX l.prog w K mg base "options_of" 4 ["source", "number"] [] (sp_options_of C_BadText) := by
    exact ⟨_, _, [], ok_options_of F18 T_BadText O_lines_of O_directive_words O_is_option_word O_BadText_init, PySem.W.mg_of X G a18, F18.kp, F18.bindsN (ps := ["source", "number"]) (fun _ _ _ _ _ _ us hl => match us, hl with | [_, _], _ => rfl), .nil⟩
  have O_Example_init : OwnC l.prog w K mg base "Example" C_Example 4 ["self", "source", "want", "error", "line", "indent", "options"] ["error", "line", "indent", "options"] 2 (sp_Example_init C_Example) := by
    exact ⟨_, _, _, ⟨mk_Example, a43, i43, kc_Example⟩, ok_Example_init F43 T_Example O_require_flags O_fed O_bare_of m_dict, ⟨fun s us ws X l1 l2 => match us, ws, l1, l2 with | [_, _, _], [_, _, _, _], _, _ => bnd_items X t43 rfl ⟨_, rfl, rfl⟩, fun r1 r2 => vals_app r1 r2⟩, PySem.W.mg_of X G aC_Example⟩
  have O_refuse_wrong_lines : OwnX l.prog w K mg base "refuse_wrong_lines" 5 ["lines", "cut"] [] (sp_refuse_wrong_lines C_BadText) := by
    exact ⟨_, _, [], ok_refuse_wrong_lines F11 T_BadText O_indent_of O_BadText_init O_refuse_wrong_indents m_len m_range c_PROMPT, PySem.W.mg_of X G a11, F11.kp, F11.bindsN (ps := ["lines", "cut"]) (fun _ _ _ _ _ _ us hl => match us, hl with | [_, _], _ => rfl), .nil⟩
  have O_piece_at : OwnX l.prog w K mg base "piece_at" 6 ["lines", "cut"] [] (sp_piece_at C_Example C_Comment C_BadText) := by
    exact ⟨_, _, [], ok_piece_at F25 T_Example T_Comment T_BadText O_refuse_wrong_lines O_indent_of O_options_of O_is_remark O_Example_init O_error_of O_BadText_init O_Comment_init c_AHEAD, PySem.W.mg_of X G a25, F25.kp, F25.bindsN (ps := ["lines", "cut"]) (fun _ _ _ _ _ _ us hl => match us, hl with | [_, _], _ => rfl), .nil⟩
  have O_parsed : OwnX l.prog w K mg base "parsed" 7 ["text"] [] (sp_parsed C_Example C_Comment C_BadText) := by
    exact ⟨_, _, [], ok_parsed F24 T_Example T_Comment T_BadText O_levelled O_kept_lines O_lines_of O_cuts_of O_piece_at m_len, PySem.W.mg_of X G a24, F24.kp, F24.bindsN (ps := ["text"]) (fun _ _ _ _ _ _ us hl => match us, hl with | [_], _ => rfl), .nil⟩
  have O_law_same : Own l.prog w K mg base "_law_same" 8 ["found", "due"] [] (sp_law_same 8) := by
    have key : ∀ n, Own l.prog w K mg base "_law_same" n ["found", "due"] [] (sp_law_same n) := fun n => by
      induction n with
      | zero => exact ⟨_, _, [], fnok_no fun _ _ _ _ h => sp_law_same_no h, PySem.W.mg_of X G a31, F31.kp, F31.bindsN (ps := ["found", "due"]) (fun _ _ _ _ _ _ us hl => match us, hl with | [_, _], _ => rfl), .nil⟩
      | succ n O_law_same => exact ⟨_, _, [], ok_law_same F31 O_law_same m_all m_bool m_int m_isinstance m_len m_list m_tuple m_zip, PySem.W.mg_of X G a31, F31.kp, F31.bindsN (ps := ["found", "due"]) (fun _ _ _ _ _ _ us hl => match us, hl with | [_, _], _ => rfl), .nil⟩
    exact key 8
  exact ok_law l41 e41 TB T_Example T_Comment T_BadText O_law_draws O_law_take O_law_pick O_law_read O_parsed O_law_shown O_law_same m_int m_isinstance m_len m_min m_range zP L_law_wrong z_PE
end Pq
open PySem PySem.W PyProof.Rows
set_option maxRecDepth 100000 in
set_option maxHeartbeats 0 in
theorem PySem.Challenge.cw_promptyard_k77_whole_texts_read_holds : PySem.Challenge.rw_promptyard_k77_whole_texts_read.Holds := by
  w_on; o_law; k_head; (case hw => w_witness2)
  k_fill
  refine LamX.walk_ofOwn (l := PySem.Challenge.rw_promptyard_k77_whole_texts_read) (n := 63) (k := 10) (x := "script") (CX := fun _ => L2.CX0) rfl (by decide) rfl ⟨rfl, by decide, by decide⟩ (by decide +kernel) (fun w h Y => PySem.W.km_in_of Y) ?F (fun _ _ _ _ _ h => h)
  case F =>
    intro w mg fa h Y KX G hmg own
    refine' Pq.all_mk KX G hmg own ?a0 ?l0 ?e0 ?k0 ?a1 ?l1 ?e1 ?k1 ?a2 ?l2 ?e2 ?k2 ?a3 ?l3 ?e3 ?k3 ?a4 ?l4 ?e4 ?k4 ?a5 ?l5 ?e5 ?k5 ?a6 ?l6 ?e6 ?k6 ?a7 ?l7 ?e7 ?k7 ?a8 ?l8 ?e8 ?k8 ?a9 ?l9 ?e9 ?k9 ?a10 ?l10 ?e10 ?k10 ?a11 ?l11 ?e11 ?k11 ?a12 ?l12 ?e12 ?k12 ?a13 ?l13 ?e13 ?k13 ?a14 ?l14 ?e14 ?k14 ?a15 ?l15 ?e15 ?k15 ?a16 ?l16 ?e16 ?k16 ?a17 ?l17 ?e17 ?k17 ?a18 ?l18 ?e18 ?k18 ?a19 ?l19 ?e19 ?k19 ?a20 ?l20 ?e20 ?k20 ?a21 ?l21 ?e21 ?k21 ?a22 ?l22 ?e22 ?k22 ?a23 ?l23 ?e23 ?k23 ?a24 ?l24 ?e24 ?k24 ?a25 ?l25 ?e25 ?k25 ?a26 ?l26 ?e26 ?k26 ?a27 ?l27 ?e27 ?k27 ?a28 ?l28 ?e28 ?k28 ?a29 ?l29 ?e29 ?k29 ?a30 ?l30 ?e30 ?k30 ?a31 ?l31 ?e31 ?k31 ?a32 ?l32 ?e32 ?k32 ?a33 ?l33 ?e33 ?k33 ?a34 ?l34 ?e34 ?k34 ?a35 ?l35 ?e35 ?k35 ?a36 ?l36 ?e36 ?k36 ?a37 ?l37 ?e37 ?k37 ?a38 ?l38 ?e38 ?k38 ?a39 ?l39 ?e39 ?k39 ?a40 ?l40 ?e40 ?k40 ?a41 ?l41 ?e41 ?k41 ?lc ?tP ?tn ?th ?a42 ?i42 ?l42 ?e42 ?k42 ?a43 ?i43 ?l43 ?e43 ?k43 ?t43 ?a44 ?i44 ?l44 ?e44 ?k44 ?t44 ?aC_Example ?pg_Example ?hd_Example ?po_Example ?sa_Example ?mk_Example ?kc_Example ?ha_Example ?hn_Example ?ht_Example ?hm_Example ?nf_Example_source ?nf_Example_want ?nf_Example_error ?nf_Example_line ?nf_Example_indent ?nf_Example_options ?nf_Example_bare ?aC_Comment ?pg_Comment ?hd_Comment ?po_Comment ?sa_Comment ?mk_Comment ?kc_Comment ?ha_Comment ?hn_Comment ?ht_Comment ?hm_Comment ?nf_Comment_source ?nf_Comment_want ?nf_Comment_line ?nf_Comment_indent ?aC_BadText ?xL_BadText ?sa_BadText ?ga_BadText ?gg_BadText ?kc_BadText ?bE_BadText ?tE_BadText ?hd_BadText ?iE_BadText ?sE_BadText ?ha_BadText ?hn_BadText ?ht_BadText ?hm_BadText ?nf_BadText_line ?nf_BadText_reason ?nf_BadText_found ?y_AHEAD ?y_BLANKS ?y_FLAGS ?x_FLAGS ?y_FURTHER ?y_HEADERS ?x_HEADERS ?y_MARK ?y_PROMPT ?y_TAB ?z_all ?z_bool ?z_dict ?z_int ?z_isinstance ?z_len ?z_list ?z_max ?z_min ?z_range ?z_sorted ?z_str ?z_tuple ?z_zip ?a_zP ?z_EC ?z_EE ?z_iC ?z_tC ?z_Es ?z_Cs ?z_PE
    (case aC_Example => k_is)
    (case aC_Comment => k_is)
    (case aC_BadText => k_is)
    (case a0 => k_is)
    (case l0 => k_is)
    (case e0 => k_is)
    (case k0 => k_is)
    (case a1 => k_is)
    (case l1 => k_is)
    (case e1 => k_is)
    (case k1 => k_is)
    (case a2 => k_is)
    (case l2 => k_is)
    (case e2 => k_is)
    (case k2 => k_is)
    (case a3 => k_is)
    (case l3 => k_is)
    (case e3 => k_is)
    (case k3 => k_is)
    (case a4 => k_is)
    (case l4 => k_is)
    (case e4 => k_is)
    (case k4 => k_is)
    (case a5 => k_is)
    (case l5 => k_is)
    (case e5 => k_is)
    (case k5 => k_is)
    (case a6 => k_is)
    (case l6 => k_is)
    (case e6 => k_is)
    (case k6 => k_is)
    (case a7 => k_is)
    (case l7 => k_is)
    (case e7 => k_is)
    (case k7 => k_is)
    (case a8 => k_is)
    (case l8 => k_is)
    (case e8 => k_is)
    (case k8 => k_is)
    (case a9 => k_is)
    (case l9 => k_is)
    (case e9 => k_is)
    (case k9 => k_is)
    (case a10 => k_is)
    (case l10 => k_is)
    (case e10 => k_is)
    (case k10 => k_is)
    (case a11 => k_is)
    (case l11 => k_is)
    (case e11 => k_is)
    (case k11 => k_is)
    (case a12 => k_is)
    (case l12 => k_is)
    (case e12 => k_is)
    (case k12 => k_is)
    (case a13 => k_is)
    (case l13 => k_is)
    (case e13 => k_is)
    (case k13 => k_is)
    (case a14 => k_is)
    (case l14 => k_is)
    (case e14 => k_is)
    (case k14 => k_is)
    (case a15 => k_is)
    (case l15 => k_is)
    (case e15 => k_is)
    (case k15 => k_is)
    (case a16 => k_is)
    (case l16 => k_is)
    (case e16 => k_is)
    (case k16 => k_is)
    (case a17 => k_is)
    (case l17 => k_is)
    (case e17 => k_is)
    (case k17 => k_is)
    (case a18 => k_is)
    (case l18 => k_is)
    (case e18 => k_is)
    (case k18 => k_is)
    (case a19 => k_is)
    (case l19 => k_is)
    (case e19 => k_is)
    (case k19 => k_is)
    (case a20 => k_is)
    (case l20 => k_is)
    (case e20 => k_is)
    (case k20 => k_is)
    (case a21 => k_is)
    (case l21 => k_is)
    (case e21 => k_is)
    (case k21 => k_is)
    (case a22 => k_is)
    (case l22 => k_is)
    (case e22 => k_is)
    (case k22 => k_is)
    (case a23 => k_is)
    (case l23 => k_is)
    (case e23 => k_is)
    (case k23 => k_is)
    (case a24 => k_is)
    (case l24 => k_is)
    (case e24 => k_is)
    (case k24 => k_is)
    (case a25 => k_is)
    (case l25 => k_is)
    (case e25 => k_is)
    (case k25 => k_is)
    (case a26 => k_is)
    (case l26 => k_is)
    (case e26 => k_is)
    (case k26 => k_is)
    (case a27 => k_is)
    (case l27 => k_is)
    (case e27 => k_is)
    (case k27 => k_is)
    (case a28 => k_is)
    (case l28 => k_is)
    (case e28 => k_is)
    (case k28 => k_is)
    (case a29 => k_is)
    (case l29 => k_is)
    (case e29 => k_is)
    (case k29 => k_is)
    (case a30 => k_is)
    (case l30 => k_is)
    (case e30 => k_is)
    (case k30 => k_is)
    (case a31 => k_is)
    (case l31 => k_is)
    (case e31 => k_is)
    (case k31 => k_is)
    (case a32 => k_is)
    (case l32 => k_is)
    (case e32 => k_is)
    (case k32 => k_is)
    (case a33 => k_is)
    (case l33 => k_is)
    (case e33 => k_is)
    (case k33 => k_is)
    (case a34 => k_is)
    (case l34 => k_is)
    (case e34 => k_is)
    (case k34 => k_is)
    (case a35 => k_is)
    (case l35 => k_is)
    (case e35 => k_is)
    (case k35 => k_is)
    (case a36 => k_is)
    (case l36 => k_is)
    (case e36 => k_is)
    (case k36 => k_is)
    (case a37 => k_is)
    (case l37 => k_is)
    (case e37 => k_is)
    (case k37 => k_is)
    (case a38 => k_is)
    (case l38 => k_is)
    (case e38 => k_is)
    (case k38 => k_is)
    (case a39 => k_is)
    (case l39 => k_is)
    (case e39 => k_is)
    (case k39 => k_is)
    (case a40 => k_is)
    (case l40 => k_is)
    (case e40 => k_is)
    (case k40 => k_is)
    (case a41 => k_is)
    (case l41 => k_is)
    (case e41 => k_is)
    (case k41 => k_is)
    (case lc => first | rfl | k_is)
    (case tP => first | rfl | k_is)
    (case tn => first | rfl | k_is)
    (case th => first | rfl | k_is)
    (case a42 => k_is)
    (case i42 => k_is)
    (case l42 => k_is)
    (case e42 => k_is)
    (case k42 => k_is)
    (case a43 => k_is)
    (case i43 => k_is)
    (case l43 => k_is)
    (case e43 => k_is)
    (case k43 => k_is)
    (case t43 => k_is)
    (case a44 => k_is)
    (case i44 => k_is)
    (case l44 => k_is)
    (case e44 => k_is)
    (case k44 => k_is)
    (case t44 => k_is)
    (case pg_Example => k_is)
    (case hd_Example => k_is)
    (case po_Example => k_is)
    (case sa_Example => k_is)
    (case mk_Example => k_is)
    (case kc_Example => k_is)
    (case ha_Example => k_is)
    (case hn_Example => k_is)
    (case ht_Example => k_is)
    (case hm_Example => k_is)
    (case nf_Example_source => k_is)
    (case nf_Example_want => k_is)
    (case nf_Example_error => k_is)
    (case nf_Example_line => k_is)
    (case nf_Example_indent => k_is)
    (case nf_Example_options => k_is)
    (case nf_Example_bare => k_is)
    (case pg_Comment => k_is)
    (case hd_Comment => k_is)
    (case po_Comment => k_is)
    (case sa_Comment => k_is)
    (case mk_Comment => k_is)
    (case kc_Comment => k_is)
    (case ha_Comment => k_is)
    (case hn_Comment => k_is)
    (case ht_Comment => k_is)
    (case hm_Comment => k_is)
    (case nf_Comment_source => k_is)
    (case nf_Comment_want => k_is)
    (case nf_Comment_line => k_is)
    (case nf_Comment_indent => k_is)
    (case xL_BadText => k_is)
    (case sa_BadText => k_is)
    (case ga_BadText => k_is)
    (case gg_BadText => k_is)
    (case kc_BadText => k_is)
    (case bE_BadText => k_is)
    (case tE_BadText => k_is)
    (case hd_BadText => k_is)
    (case iE_BadText => k_is)
    (case sE_BadText => k_is)
    (case ha_BadText => k_is)
    (case hn_BadText => k_is)
    (case ht_BadText => k_is)
    (case hm_BadText => k_is)
    (case nf_BadText_line => k_is)
    (case nf_BadText_reason => k_is)
    (case nf_BadText_found => k_is)
    (case y_AHEAD => k_is)
    (case y_BLANKS => k_is)
    (case y_FLAGS => k_is)
    (case x_FLAGS => k_is)
    (case y_FURTHER => k_is)
    (case y_HEADERS => k_is)
    (case x_HEADERS => k_is)
    (case y_MARK => k_is)
    (case y_PROMPT => k_is)
    (case y_TAB => k_is)
    (case z_all => k_is)
    (case z_bool => k_is)
    (case z_dict => k_is)
    (case z_int => k_is)
    (case z_isinstance => k_is)
    (case z_len => k_is)
    (case z_list => k_is)
    (case z_max => k_is)
    (case z_min => k_is)
    (case z_range => k_is)
    (case z_sorted => k_is)
    (case z_str => k_is)
    (case z_tuple => k_is)
    (case z_zip => k_is)
    (case a_zP => k_is)
    (case z_EC => first | rfl | k_is)
    (case z_EE => first | rfl | k_is)
    (case z_iC => first | rfl | k_is)
    (case z_tC => first | rfl | k_is)
    (case z_Es => first | rfl | k_is)
    (case z_Cs => first | rfl | k_is)
    (case z_PE => first | rfl | k_is)

