import PyProof.Rows.All
import Wide.All
import OpenK.AllK
import Wide.FinOn
import HandS.FStr
import HandS.ForMost
import HandS.Flow
import HandS.Defaults
import HandS.Style
import HandS.IsInst
import HandS.StrMore
import HandS.ReplaceList
import HandS.Deep
import HandS.Conv
import HandS.More
import PyProof.ToksMono
import HandS.ExpandTabs
import HandS.Codes
import HandS.SortKw
import KE.KMinKey
import KE.KUnpackStar
import HandS.List
import HandS.MakeKwOnly
import HandS.TryOnly
import HandS.ListItems
import HandS.Zip
import PySem.Challenge.RW_promptyard_k78_whole_pieces_joined
set_option Elab.async false
set_option linter.all false
set_option maxRecDepth 100000
namespace Pq
open PySem L2 TL PyProof.Rows
def top (i : Nat) : Stmt := PySem.Challenge.pw_promptyard_k78_whole_pieces_joined.main.body.getD i (.Pass ⟨0, 0, 0, 0⟩)
-- def kept_lines at top 6
abbrev s_kept_lines : Stmt := top 6
theorem sc_kept_lines : FnScope ["text", "lines", "rest", "kept", "line"] ["text"] (defScope s_kept_lines) := ⟨rfl, rfl, rfl, by decide +kernel, rfl, by decide +kernel, by decide +kernel⟩
-- cells []
-- def lines_of at top 7
abbrev s_lines_of : Stmt := top 7
theorem sc_lines_of : FnScope ["text", "line"] ["text"] (defScope s_lines_of) := ⟨rfl, rfl, rfl, by decide +kernel, rfl, by decide +kernel, by decide +kernel⟩
-- cells []
-- def fed at top 8
abbrev s_fed : Stmt := top 8
theorem sc_fed : FnScope ["text"] ["text"] (defScope s_fed) := ⟨rfl, rfl, rfl, by decide +kernel, rfl, by decide +kernel, by decide +kernel⟩
-- cells []
-- def indent_of at top 9
abbrev s_indent_of : Stmt := top 9
theorem sc_indent_of : FnScope ["line"] ["line"] (defScope s_indent_of) := ⟨rfl, rfl, rfl, by decide +kernel, rfl, by decide +kernel, by decide +kernel⟩
-- cells []
-- def is_blank at top 12
abbrev s_is_blank : Stmt := top 12
theorem sc_is_blank : FnScope ["line"] ["line"] (defScope s_is_blank) := ⟨rfl, rfl, rfl, by decide +kernel, rfl, by decide +kernel, by decide +kernel⟩
-- cells []
-- def words_of at top 13
abbrev s_words_of : Stmt := top 13
theorem sc_words_of : FnScope ["text", "spaced", "word"] ["text"] (defScope s_words_of) := ⟨rfl, rfl, rfl, by decide +kernel, rfl, by decide +kernel, by decide +kernel⟩
-- cells []
-- def begins at top 18
abbrev s_begins : Stmt := top 18
theorem sc_begins : FnScope ["line", "prompt"] ["line", "prompt"] (defScope s_begins) := ⟨rfl, rfl, rfl, by decide +kernel, rfl, by decide +kernel, by decide +kernel⟩
-- cells []
-- def cuts_of at top 19
abbrev s_cuts_of : Stmt := top 19
theorem sc_cuts_of : FnScope ["lines", "cuts", "at", "middle", "end"] ["lines"] (defScope s_cuts_of) := ⟨rfl, rfl, rfl, by decide +kernel, rfl, by decide +kernel, by decide +kernel⟩
-- cells []
-- def behind_source at top 20
abbrev s_behind_source : Stmt := top 20
theorem sc_behind_source : FnScope ["lines", "at"] ["lines", "at"] (defScope s_behind_source) := ⟨rfl, rfl, rfl, by decide +kernel, rfl, by decide +kernel, by decide +kernel⟩
-- cells []
-- def behind_expected at top 21
abbrev s_behind_expected : Stmt := top 21
theorem sc_behind_expected : FnScope ["lines", "at"] ["lines", "at"] (defScope s_behind_expected) := ⟨rfl, rfl, rfl, by decide +kernel, rfl, by decide +kernel, by decide +kernel⟩
-- cells []
-- def refuse_wrong_lines at top 22
abbrev s_refuse_wrong_lines : Stmt := top 22
theorem sc_refuse_wrong_lines : FnScope ["lines", "cut", "start", "middle", "end", "indent", "behind_prompt", "at"] ["lines", "cut"] (defScope s_refuse_wrong_lines) := ⟨rfl, rfl, rfl, by decide +kernel, rfl, by decide +kernel, by decide +kernel⟩
-- cells []
-- def refuse_wrong_indents at top 23
abbrev s_refuse_wrong_indents : Stmt := top 23
theorem sc_refuse_wrong_indents : FnScope ["lines", "start", "end", "ahead", "at"] ["lines", "start", "end", "ahead"] (defScope s_refuse_wrong_indents) := ⟨rfl, rfl, rfl, by decide +kernel, rfl, by decide +kernel, by decide +kernel⟩
-- cells []
-- def is_flag at top 26
abbrev s_is_flag : Stmt := top 26
theorem sc_is_flag : FnScope ["thing"] ["thing"] (defScope s_is_flag) := ⟨rfl, rfl, rfl, by decide +kernel, rfl, by decide +kernel, by decide +kernel⟩
-- cells []
-- def require_flags at top 27
abbrev s_require_flags : Stmt := top 27
theorem sc_require_flags : FnScope ["flags", "thing"] ["flags"] (defScope s_require_flags) := ⟨rfl, rfl, rfl, by decide +kernel, rfl, by decide +kernel, by decide +kernel⟩
-- cells []
-- def directive_of at top 30
abbrev s_directive_of : Stmt := top 30
theorem sc_directive_of : FnScope ["line", "at"] ["line"] (defScope s_directive_of) := ⟨rfl, rfl, rfl, by decide +kernel, rfl, by decide +kernel, by decide +kernel⟩
-- cells []
-- def directive_words at top 31
abbrev s_directive_words : Stmt := top 31
theorem sc_directive_words : FnScope ["line"] ["line"] (defScope s_directive_words) := ⟨rfl, rfl, rfl, by decide +kernel, rfl, by decide +kernel, by decide +kernel⟩
-- cells []
-- def options_of at top 33
abbrev s_options_of : Stmt := top 33
theorem sc_options_of : FnScope ["source", "number", "options", "line", "word"] ["source", "number"] (defScope s_options_of) := ⟨rfl, rfl, rfl, by decide +kernel, rfl, by decide +kernel, by decide +kernel⟩
-- cells []
-- def bare_of at top 34
abbrev s_bare_of : Stmt := top 34
theorem sc_bare_of : FnScope ["source", "line"] ["source"] (defScope s_bare_of) := ⟨rfl, rfl, rfl, by decide +kernel, rfl, by decide +kernel, by decide +kernel⟩
-- cells []
-- def bare_line at top 35
abbrev s_bare_line : Stmt := top 35
theorem sc_bare_line : FnScope ["line"] ["line"] (defScope s_bare_line) := ⟨rfl, rfl, rfl, by decide +kernel, rfl, by decide +kernel, by decide +kernel⟩
-- cells []
-- def is_remark at top 36
abbrev s_is_remark : Stmt := top 36
theorem sc_is_remark : FnScope ["source", "line"] ["source"] (defScope s_is_remark) := ⟨rfl, rfl, rfl, by decide +kernel, rfl, by decide +kernel, by decide +kernel⟩
-- cells []
-- def widened at top 42
abbrev s_widened : Stmt := top 42
theorem sc_widened : FnScope ["text"] ["text"] (defScope s_widened) := ⟨rfl, rfl, rfl, by decide +kernel, rfl, by decide +kernel, by decide +kernel⟩
-- cells []
-- def levelled at top 43
abbrev s_levelled : Stmt := top 43
theorem sc_levelled : FnScope ["text", "lines", "least", "line"] ["text"] (defScope s_levelled) := ⟨rfl, rfl, rfl, by decide +kernel, rfl, by decide +kernel, by decide +kernel⟩
-- cells ['least']
-- def parsed at top 44
abbrev s_parsed : Stmt := top 44
theorem sc_parsed : FnScope ["text", "level", "kept", "lines", "pieces", "behind", "cut"] ["text"] (defScope s_parsed) := ⟨rfl, rfl, rfl, by decide +kernel, rfl, by decide +kernel, by decide +kernel⟩
-- cells []
-- def piece_at at top 45
abbrev s_piece_at : Stmt := top 45
theorem sc_piece_at : FnScope ["lines", "cut", "start", "middle", "end", "indent", "source", "want", "options", "line"] ["lines", "cut"] (defScope s_piece_at) := ⟨rfl, rfl, rfl, by decide +kernel, rfl, by decide +kernel, by decide +kernel⟩
-- cells ['indent']
-- def error_of at top 46
abbrev s_error_of : Stmt := top 46
theorem sc_error_of : FnScope ["want", "lines", "at"] ["want"] (defScope s_error_of) := ⟨rfl, rfl, rfl, by decide +kernel, rfl, by decide +kernel, by decide +kernel⟩
-- cells []
-- def is_word_sign at top 47
abbrev s_is_word_sign : Stmt := top 47
theorem sc_is_word_sign : FnScope ["sign"] ["sign"] (defScope s_is_word_sign) := ⟨rfl, rfl, rfl, by decide +kernel, rfl, by decide +kernel, by decide +kernel⟩
-- cells []
-- def joined at top 48
abbrev s_joined : Stmt := top 48
theorem sc_joined : FnScope ["pieces", "piece"] ["pieces"] (defScope s_joined) := ⟨rfl, rfl, rfl, by decide +kernel, rfl, by decide +kernel, by decide +kernel⟩
-- cells []
-- def written at top 49
abbrev s_written : Stmt := top 49
theorem sc_written : FnScope ["piece", "sources", "prompts", "rows", "prompt", "line", "row"] ["piece"] (defScope s_written) := ⟨rfl, rfl, rfl, by decide +kernel, rfl, by decide +kernel, by decide +kernel⟩
-- cells ['piece']
-- def _law_draws at top 51
abbrev s_law_draws : Stmt := top 51
theorem sc_law_draws : FnScope ["script", "item"] ["script"] (defScope s_law_draws) := ⟨rfl, rfl, rfl, by decide +kernel, rfl, by decide +kernel, by decide +kernel⟩
-- cells []
-- def _law_mixed at top 52
abbrev s_law_mixed : Stmt := top 52
theorem sc_law_mixed : FnScope ["seed", "k", "first"] ["seed", "k"] (defScope s_law_mixed) := ⟨rfl, rfl, rfl, by decide +kernel, rfl, by decide +kernel, by decide +kernel⟩
-- cells []
-- def _law_take at top 53
abbrev s_law_take : Stmt := top 53
theorem sc_law_take : FnScope ["draws", "size", "drawn", "seed", "reach"] ["draws", "size"] (defScope s_law_take) := ⟨rfl, rfl, rfl, by decide +kernel, rfl, by decide +kernel, by decide +kernel⟩
-- cells []
-- def _law_same00 at top 54
abbrev s_law_same00 : Stmt := top 54
theorem sc_law_same00 : FnScope ["found", "due", "one", "two"] ["found", "due"] (defScope s_law_same00) := ⟨rfl, rfl, rfl, by decide +kernel, rfl, by decide +kernel, by decide +kernel⟩
-- cells []
-- def _law_same0 at top 54
abbrev s_law_same0 : Stmt := top 54
theorem sc_law_same0 : FnScope ["found", "due", "one", "two"] ["found", "due"] (defScope s_law_same0) := ⟨rfl, rfl, rfl, by decide +kernel, rfl, by decide +kernel, by decide +kernel⟩
-- cells []
-- def _law_same at top 54
abbrev s_law_same : Stmt := top 54
theorem sc_law_same : FnScope ["found", "due", "one", "two"] ["found", "due"] (defScope s_law_same) := ⟨rfl, rfl, rfl, by decide +kernel, rfl, by decide +kernel, by decide +kernel⟩
-- cells []
-- def _law_pick at top 55
abbrev s_law_pick : Stmt := top 55
theorem sc_law_pick : FnScope ["draws", "things"] ["draws", "things"] (defScope s_law_pick) := ⟨rfl, rfl, rfl, by decide +kernel, rfl, by decide +kernel, by decide +kernel⟩
-- cells []
-- def _law_blank_line at top 56
abbrev s_law_blank_line : Stmt := top 56
theorem sc_law_blank_line : FnScope ["draws"] ["draws"] (defScope s_law_blank_line) := ⟨rfl, rfl, rfl, by decide +kernel, rfl, by decide +kernel, by decide +kernel⟩
-- cells []
-- def _law_text_line at top 57
abbrev s_law_text_line : Stmt := top 57
theorem sc_law_text_line : FnScope ["draws", "some"] ["draws"] (defScope s_law_text_line) := ⟨rfl, rfl, rfl, by decide +kernel, rfl, by decide +kernel, by decide +kernel⟩
-- cells []
-- def _law_source_lines at top 58
abbrev s_law_source_lines : Stmt := top 58
theorem sc_law_source_lines : FnScope ["draws", "is_comment", "found", "some", "k"] ["draws", "is_comment"] (defScope s_law_source_lines) := ⟨rfl, rfl, rfl, by decide +kernel, rfl, by decide +kernel, by decide +kernel⟩
-- cells ['draws']
-- def _law_want_lines at top 59
abbrev s_law_want_lines : Stmt := top 59
theorem sc_law_want_lines : FnScope ["draws", "found", "some", "k", "head", "heads"] ["draws"] (defScope s_law_want_lines) := ⟨rfl, rfl, rfl, by decide +kernel, rfl, by decide +kernel, by decide +kernel⟩
-- cells []
-- def _law_drawn_parts at top 60
abbrev s_law_drawn_parts : Stmt := top 60
theorem sc_law_drawn_parts : FnScope ["draws", "most", "found", "k", "lines", "is_comment", "depth", "j"] ["draws", "most"] (defScope s_law_drawn_parts) := ⟨rfl, rfl, rfl, by decide +kernel, rfl, by decide +kernel, by decide +kernel⟩
-- cells ['draws']
-- def _law_part_lines at top 61
abbrev s_law_part_lines : Stmt := top 61
theorem sc_law_part_lines : FnScope ["draws", "part", "ahead", "found", "at", "each", "behind"] ["draws", "part"] (defScope s_law_part_lines) := ⟨rfl, rfl, rfl, by decide +kernel, rfl, by decide +kernel, by decide +kernel⟩
-- cells ['ahead']
-- def _law_error at top 62
abbrev s_law_error : Stmt := top 62
theorem sc_law_error : FnScope ["lines", "heads", "at", "each"] ["lines"] (defScope s_law_error) := ⟨rfl, rfl, rfl, by decide +kernel, rfl, by decide +kernel, by decide +kernel⟩
-- cells []
-- def _law_bare_lines at top 63
abbrev s_law_bare_lines : Stmt := top 63
theorem sc_law_bare_lines : FnScope ["lines", "each"] ["lines"] (defScope s_law_bare_lines) := ⟨rfl, rfl, rfl, by decide +kernel, rfl, by decide +kernel, by decide +kernel⟩
-- cells []
-- def _law_written at top 64
abbrev s_law_written : Stmt := top 64
theorem sc_law_written : FnScope ["draws", "parts", "shift", "lines", "begins_v", "part", "indents", "least", "due", "end", "begin", "text", "is_last", "source", "want", "found", "each"] ["draws", "parts", "shift"] (defScope s_law_written) := ⟨rfl, rfl, rfl, by decide +kernel, rfl, by decide +kernel, by decide +kernel⟩
-- cells ['least', 'shift']
-- def _law_shown at top 65
abbrev s_law_shown : Stmt := top 65
theorem sc_law_shown : FnScope ["piece", "rest"] ["piece"] (defScope s_law_shown) := ⟨rfl, rfl, rfl, by decide +kernel, rfl, by decide +kernel, by decide +kernel⟩
-- cells []
-- def _law_smoothed at top 66
abbrev s_law_smoothed : Stmt := top 66
theorem sc_law_smoothed : FnScope ["text", "pieces", "found", "each", "bare", "is_open"] ["text", "pieces"] (defScope s_law_smoothed) := ⟨rfl, rfl, rfl, by decide +kernel, rfl, by decide +kernel, by decide +kernel⟩
-- cells []
-- def _law_by_hand at top 67
abbrev s_law_by_hand : Stmt := top 67
theorem sc_law_by_hand : FnScope ["draws", "pieces", "text", "k", "depth", "wants", "ahead", "want", "each"] ["draws"] (defScope s_law_by_hand) := ⟨rfl, rfl, rfl, by decide +kernel, rfl, by decide +kernel, by decide +kernel⟩
-- cells ['ahead']
-- def law at top 68
abbrev s_law : Stmt := top 68
theorem sc_law : FnScope ["script", "draws", "turn", "text", "due", "pieces", "found", "piece"] ["script"] (defScope s_law) := ⟨rfl, rfl, rfl, by decide +kernel, rfl, by decide +kernel, by decide +kernel⟩
-- cells []
-- def Example_init at top 40
abbrev s_Example_init : Stmt := inClass (top 40) 0
theorem sc_Example_init : FnScope ["self", "source", "want", "error", "line", "indent", "options", "told"] ["self", "source", "want", "error", "line", "indent", "options"] (defScope s_Example_init) := ⟨rfl, rfl, rfl, by decide +kernel, rfl, by decide +kernel, by decide +kernel⟩
-- cells []
-- def Comment_init at top 41
abbrev s_Comment_init : Stmt := inClass (top 41) 0
theorem sc_Comment_init : FnScope ["self", "source", "want", "line", "indent"] ["self", "source", "want", "line", "indent"] (defScope s_Comment_init) := ⟨rfl, rfl, rfl, by decide +kernel, rfl, by decide +kernel, by decide +kernel⟩
-- cells []
def v_FLAGS : List Str := ["DONT_ACCEPT_TRUE_FOR_1", "DONT_ACCEPT_BLANKLINE", "NORMALIZE_WHITESPACE", "ELLIPSIS", "SKIP", "IGNORE_EXCEPTION_DETAIL", "REPORT_ONLY_FIRST_FAILURE", "FAIL_FAST"]
def v_HEADERS : List Str := ["Traceback (most recent call last):", "Traceback (innermost last):"]

/-! ### small words -/
theorem same_new {H : Hp} {p : Addr} {o : HO} (h : H p = none) : Same H (upd H p o) := fun b x e => by
  rw [upd_ne (ne_of_none e h)]
  exact e
theorem line_of {n : Nat} (h : n ≤ 1000000) : n ≤ sizeLine := Nat.le_trans h (by decide)
/-- a def of the text, as its callers see it -/
structure Own (P : Program) (w : World) (K : PySem.W.Frag) (mg : Str → Option Value) (base : Heap) (x : Str) (k : Nat) (ps : List Str) (dvs : List V) (sp : Sp) : Prop where
  ex : ∃ f fd ds, FnOk P w K mg base CX0 k f fd ps sp ∧ mg x = some (.ref f) ∧ PySem.W.keepIn K (.ref f) = true ∧ Binds K fd ps ds ∧ Vals dvs ds
section
variable {X : Cx} {x : Str} {k : Nat} {ps : List Str} {dvs : List V} {sp : Sp} {e : Expr} {es : List Expr} {t : TA} {p pos : Pos}
theorem Own.mk' {P : Program} {w : World} {K : PySem.W.Frag} {mg : Str → Option Value} {base : Heap} {f : Addr} {fd : FuncData} {ds : List Value} (a : FnOk P w K mg base CX0 k f fd ps sp) (b : mg x = some (.ref f)) (c : PySem.W.keepIn K (.ref f) = true) (d : Binds K fd ps ds) (v : Vals dvs ds) : Own P w K mg base x k ps dvs sp := ⟨_, _, _, a, b, c, d, v⟩
theorem pe_own (O : Own X.prog X.w X.K X.mg X.base x k ps dvs sp) (hr : Room k X.A) (hg : Gl X x) (ha : PA X (e :: es) t) (hdb : (x == ("__debug__" : Str)) = false := by decide) (he : starEach (e :: es) X.env = (false, eval e X.env) :: starEach es X.env := by rfl) (hpl : (backTo pos (starEach es X.env)).any (·.1) = false := by rfl) :
    PE X (.Call (.Name x p) (e :: es) [] pos) (tCall sp dvs E0 t) := by
  obtain ⟨f, fd, ds, F, hm, hk, hb, hd⟩ := O.ex
  exact pe_call F hr hg hm hk hb hd pass0 ha hdb he hpl
theorem pe_own0 (O : Own X.prog X.w X.K X.mg X.base x k ps dvs sp) (hr : Room k X.A) (hg : Gl X x) (hdb : (x == ("__debug__" : Str)) = false := by decide) :
    PE X (.Call (.Name x p) [] [] pos) (tCall sp dvs E0 tNil) := by
  obtain ⟨f, fd, ds, F, hm, hk, hb, hd⟩ := O.ex
  exact pe_call0 F hr hg hm hk hb hd pass0 hdb
/-- a statement, a word about what stands behind it, the rest -/
def tCut (t u : TS) : TS := fun D σ H => ∃ Mid : L2.St → Hp → Prop, t { D with nx := Mid } σ H ∧ ∀ σ' H', Mid σ' H' → u D σ' H'
theorem pss_cut {st : Stmt} {rest : List Stmt} {t u : TS} (h1 : PS X st t) (h2 : PSs X rest u) : PSs X (st :: rest) (tCut t u) := by
  refine ⟨fun pins s σ H D I h => ?_⟩
  obtain ⟨Mid, hm, hu⟩ := h
  refine wpAny_execs_cons (thn (h1.run pins s σ H { D with nx := Mid } I hm) fun f s1 q => ?_)
  cases f with
  | next =>
    obtain ⟨σ', H', I', q⟩ := q
    exact h2.run pins s1 σ' H' D I' (hu σ' H' q)
  | ret v => exact q
  | brk => exact q
  | cont => exact q
end
theorem int_at {ns : List Int} {i : Nat} {x : V} (h : (ns.map V.int)[i]? = some x) : ∃ z, x = V.int z := by
  rw [List.getElem?_map] at h
  cases e : ns[i]? with
  | none =>
    rw [e] at h
    cases h
  | some z =>
    rw [e] at h
    exact ⟨z, (Option.some.inj h).symm⟩

/-! ### steps that want one token out: the judgements of the layer from states with a token -/
section
variable {α : Type} {M : Model} {A : Around} {s : Shared}
theorem thnK {t : Sem α} {Q Q' : α → Shared → Prop} {E : Value → Shared → Prop} (hk : 1 ≤ s.toks) (h : wpAny M A t Q E s) (hQ : ∀ a s', 1 ≤ s'.toks → Q a s' → Q' a s') : wpAny M A t Q' E s :=
  wpAny_mono (PySem.wpAny_toks_of hk h) (fun a s' x => hQ a s' x.1 x.2) fun _ _ x => x.2
end
structure ET (X : Cx) (e : Expr) (t : TE) : Prop where
  run : ∀ (pins : List (Addr × Obj)) (s : Shared) (σ : L2.St) (H : Hp) (Q : VK), 1 ≤ s.toks → Inv X pins σ H s → t σ H Q → wpAny (model X.prog X.w) X.A (eval e X.env) (EP X pins σ Q) X.xe s
structure TT' (X : Cx) (e : Expr) (t : TT) : Prop where
  run : ∀ (pins : List (Addr × Obj)) (s : Shared) (σ : L2.St) (H : Hp) (Q : Bool → Hp → Prop), 1 ≤ s.toks → Inv X pins σ H s → t σ H Q → wpAny (model X.prog X.w) X.A (isTrue e X.env (eval e X.env)) (TP X pins σ Q) X.xe s
structure WT (X : Cx) (e : Expr) (t : TT) : Prop where
  run : ∀ (whole : Sem Value) (pins : List (Addr × Obj)) (s : Shared) (σ : L2.St) (H : Hp) (Q : Bool → Hp → Prop), 1 ≤ s.toks → Inv X pins σ H s → t σ H Q → wpAny (model X.prog X.w) X.A (isTrue e X.env whole) (TP X pins σ Q) X.xe s
structure AT (X : Cx) (es : List Expr) (t : TA) : Prop where
  run : ∀ (pos : Pos) (pins : List (Addr × Obj)) (s : Shared) (σ : L2.St) (H : Hp) (Q : List V → Hp → Prop), 1 ≤ s.toks → Inv X pins σ H s → t σ H Q → wpAny (model X.prog X.w) X.A (spliced (backTo pos (starEach es X.env))) (AP X pins σ Q) X.xe s
structure ST (X : Cx) (st : Stmt) (t : TS) : Prop where
  run : ∀ (pins : List (Addr × Obj)) (s : Shared) (σ : L2.St) (H : Hp) (D : Ends), 1 ≤ s.toks → Inv X pins σ H s → t D σ H → wpAny (model X.prog X.w) X.A (exec st X.env) (SP X pins D) X.xe s
structure BT (X : Cx) (st : List Stmt) (t : TS) : Prop where
  run : ∀ (pins : List (Addr × Obj)) (s : Shared) (σ : L2.St) (H : Hp) (D : Ends), 1 ≤ s.toks → Inv X pins σ H s → t D σ H → wpAny (model X.prog X.w) X.A (execs st X.env) (SP X pins D) X.xe s
/-- the same, and behind it a token is out for sure -/
structure AK (X : Cx) (es : List Expr) (t : TA) : Prop where
  run : ∀ (pos : Pos) (pins : List (Addr × Obj)) (s : Shared) (σ : L2.St) (H : Hp) (Q : List V → Hp → Prop), Inv X pins σ H s → t σ H Q → wpAny (model X.prog X.w) X.A (spliced (backTo pos (starEach es X.env))) (fun us s' => 1 ≤ s'.toks ∧ AP X pins σ Q us s') X.xe s
structure EK (X : Cx) (e : Expr) (t : TE) : Prop where
  run : ∀ (pins : List (Addr × Obj)) (s : Shared) (σ : L2.St) (H : Hp) (Q : VK), Inv X pins σ H s → t σ H Q → wpAny (model X.prog X.w) X.A (eval e X.env) (fun u s' => 1 ≤ s'.toks ∧ EP X pins σ Q u s') X.xe s
structure SK (X : Cx) (st : Stmt) (t : TS) : Prop where
  run : ∀ (pins : List (Addr × Obj)) (s : Shared) (σ : L2.St) (H : Hp) (D : Ends), Inv X pins σ H s → t D σ H → wpAny (model X.prog X.w) X.A (exec st X.env) (fun f s' => 1 ≤ s'.toks ∧ SP X pins D f s') X.xe s
structure BK (X : Cx) (st : List Stmt) (t : TS) : Prop where
  run : ∀ (pins : List (Addr × Obj)) (s : Shared) (σ : L2.St) (H : Hp) (D : Ends), Inv X pins σ H s → t D σ H → wpAny (model X.prog X.w) X.A (execs st X.env) (fun f s' => 1 ≤ s'.toks ∧ SP X pins D f s') X.xe s
structure FnT (P : Program) (w : World) (K : PySem.W.Frag) (mg : Str → Option Value) (base : Heap) (CX : CXT) (k : Nat) (f : Addr) (fd : FuncData) (ps : List Str) (sp : Sp) : Prop where
  len : ∀ vs H Q E, sp vs H Q E → vs.length = ps.length
  run : ∀ (A : Around) (outer : List Env) (s : Shared) (H : Hp) (args : Args) (us : List Value) (vs : List V) (Q : VK) (E : XK), 1 ≤ s.toks → Room k A → Env0 P w K mg base A outer s H → BindsTo s fd args (ps.zip us) → Vals vs us → sp vs H Q E →
    codeAny (model P w) A (.call (.ref f) args) (CR CX outer P w H s Q E) s
structure FnK (P : Program) (w : World) (K : PySem.W.Frag) (mg : Str → Option Value) (base : Heap) (CX : CXT) (k : Nat) (f : Addr) (fd : FuncData) (ps : List Str) (sp : Sp) : Prop where
  len : ∀ vs H Q E, sp vs H Q E → vs.length = ps.length
  run : ∀ (A : Around) (outer : List Env) (s : Shared) (H : Hp) (args : Args) (us : List Value) (vs : List V) (Q : VK) (E : XK), Room k A → Env0 P w K mg base A outer s H → BindsTo s fd args (ps.zip us) → Vals vs us → sp vs H Q E →
    codeAny (model P w) A (.call (.ref f) args) (fun r s' => ((∃ e, r = .error e) ∨ 1 ≤ s'.toks) ∧ CR CX outer P w H s Q E r s') s
structure OwnT (P : Program) (w : World) (K : PySem.W.Frag) (mg : Str → Option Value) (base : Heap) (x : Str) (k : Nat) (ps : List Str) (dvs : List V) (sp : Sp) : Prop where
  ex : ∃ f fd ds, FnT P w K mg base CX0 k f fd ps sp ∧ mg x = some (.ref f) ∧ PySem.W.keepIn K (.ref f) = true ∧ Binds K fd ps ds ∧ Vals dvs ds
structure OwnK (P : Program) (w : World) (K : PySem.W.Frag) (mg : Str → Option Value) (base : Heap) (x : Str) (k : Nat) (ps : List Str) (dvs : List V) (sp : Sp) : Prop where
  ex : ∃ f fd ds, FnK P w K mg base CX0 k f fd ps sp ∧ mg x = some (.ref f) ∧ PySem.W.keepIn K (.ref f) = true ∧ Binds K fd ps ds ∧ Vals dvs ds
section
variable {X : Cx} {a b c e o : Expr} {es rest' : List Expr} {ta tb tc te to : TE} {uA uB uC : TT} {tx : TA} {pos : Pos} {st : Stmt} {rest bd bd' : List Stmt} {t u : TS}
theorem ET.of (h : PE X e te) : ET X e te := ⟨fun pins s σ H Q _ I q => h.run pins s σ H Q I q⟩
theorem TT'.of (h : PT X e uA) : TT' X e uA := ⟨fun pins s σ H Q _ I q => h.run pins s σ H Q I q⟩
theorem WT.of (h : PW X e uA) : WT X e uA := ⟨fun wh pins s σ H Q _ I q => h.run wh pins s σ H Q I q⟩
theorem WT.pt (h : WT X e uA) : TT' X e uA := ⟨h.run _⟩
theorem AT.of (h : PA X es tx) : AT X es tx := ⟨fun pos pins s σ H Q _ I q => h.run pos pins s σ H Q I q⟩
theorem ST.of (h : PS X st t) : ST X st t := ⟨fun pins s σ H D _ I q => h.run pins s σ H D I q⟩
theorem BT.of (h : PSs X bd t) : BT X bd t := ⟨fun pins s σ H D _ I q => h.run pins s σ H D I q⟩
/-- arguments -/
theorem at_cons (ha : ET X e te) (hr : AT X es tx) (hs : starEach (e :: es) X.env = (false, eval e X.env) :: starEach es X.env := by rfl) : AT X (e :: es) (tCons te tx) := by
  refine ⟨fun pos pins s σ H Q hk I h => ?_⟩
  rw [hs]
  show wpAny _ _ (spliced ((false, eval e X.env) :: backTo pos (starEach es X.env))) _ _ s
  refine Calls.spliced_cons (thnK hk (ha.run pins s σ H _ hk I h) fun v s1 k1 ⟨x, H1, I1, r1, q1⟩ => ?_)
  exact thn (hr.run pos pins s1 σ H1 _ k1 I1 q1) fun us s2 ⟨xs, H2, I2, r2, q2⟩ => ⟨x :: xs, H2, I2, .cons r1 r2, q2⟩
theorem at_nil : AT X [] tNil := .of pa_nil
theorem binK (ha : ET X a ta) (hb : ET X b tb) {pins : List (Addr × Obj)} {s : Shared} {σ : L2.St} {H : Hp} {R : V → V → Hp → Prop} (hk : 1 ≤ s.toks) (I : Inv X pins σ H s)
    (h : ta σ H fun x H1 => tb σ H1 fun y H2 => R x y H2) {Q : Value → Shared → Prop} {f : Value → Value → Sem Value}
    (hf : ∀ v u s2 x y H2, Inv X pins σ H2 s2 → RelV x v → RelV y u → R x y H2 → wpAny (model X.prog X.w) X.A (f v u) Q X.xe s2) :
    wpAny (model X.prog X.w) X.A (eval a X.env) (fun v s₁ => wpAny (model X.prog X.w) X.A (eval b X.env) (fun u s₂ => wpAny (model X.prog X.w) X.A (f v u) Q X.xe s₂) X.xe s₁) X.xe s := by
  refine thnK hk (ha.run pins s σ H _ hk I h) fun v s1 k1 ⟨x, H1, I1, r1, q1⟩ => ?_
  refine thn (hb.run pins s1 σ H1 _ k1 I1 q1) fun u s2 ⟨y, H2, I2, r2, q2⟩ => ?_
  exact hf v u s2 x y H2 I2 r1 r2 q2
theorem et_op {op : Operator} {r : R2} (ho : OpR X (binaryOp op) r) (ha : ET X a ta) (hb : ET X b tb) : ET X (.BinOp a op b pos) (tOp r ta tb) :=
  ⟨fun pins s σ H Q hk I h => wpAny_BinOp (binK ha hb hk I h fun v u s2 x y H2 I2 rx ry q => ho pins s2 σ H2 x y v u Q I2 rx ry q)⟩
theorem et_ix {r : R2} (hr : IxR X r) (ha : ET X a ta) (hb : ET X b tb) (hs : PlainIx b) : ET X (.Subscript a b pos) (tOp r ta tb) :=
  ⟨fun pins s σ H Q hk I h => Subscript_ (binK ha hb hk I h fun v u s2 x y H2 I2 rx ry q => hr a b pins s2 σ H2 x y v u Q I2 rx ry q (hs _ _))⟩
theorem et_cmpR {op : CmpOp} {r : R2} (ho : OpR X (compareOp op) r) (ha : ET X a ta) (hb : ET X b tb) (hm : behindInMarks op b = false) : ET X (.Compare a [op] [b] pos) (tOp r ta tb) :=
  ⟨fun pins s σ H Q hk I h => wpAny_Compare1 (binK ha hb hk I h fun v u s2 x y H2 I2 rx ry q => ho pins s2 σ H2 x y v u Q I2 rx ry q) hm⟩
theorem tt_cmpR {op : CmpOp} {r : R2} (ho : OpR X (compareOp op) r) (ha : ET X a ta) (hb : ET X b tb) (hm : behindInMarks op b = false) : TT' X (.Compare a [op] [b] pos) (tTest (tOp r ta tb)) := by
  refine ⟨fun pins s σ H Q hk I h => ?_⟩
  refine wpAny_isTrue_Compare1 (thnK hk (ha.run pins s σ H _ hk I h) fun v s1 k1 ⟨x, H1, I1, r1, q1⟩ => thn (hb.run pins s1 σ H1 _ k1 I1 q1) fun u s2 ⟨y, H2, I2, r2, q2⟩ =>
    thn (ho pins s2 σ H2 x y v u _ I2 r1 r2 q2) fun c s3 ⟨z, H3, I3, r3, k, e, q3⟩ => ?_) hm
  subst e
  cases r3
  exact wpAny_truthy_bool ⟨H3, I3, q3⟩
theorem tt_val (h : ET X e te) (he : ∀ whole, isTrue e X.env whole = (do let v ← whole; standAt e.pos; holding [v] (truthy v)) := by intro _; rfl) : TT' X e (tB te) := by
  refine ⟨fun pins s σ H Q hk I hw => ?_⟩
  refine isTrue_plain (thn (h.run pins s σ H _ hk I hw) fun v s1 ⟨x, H1, I1, r1, q1⟩ => ?_) (he _)
  obtain ⟨k, rfl, q⟩ := q1
  cases r1
  exact wpAny_truthy_bool ⟨H1, I1, q⟩
theorem tt_not (ha : TT' X a uA) : TT' X (.UnaryOp .Not a pos) (tNot uA) :=
  ⟨fun pins s σ H Q hk I h => isTrue_not (ha.run pins s σ H (fun c H1 => Q (!c) H1) hk I h)⟩
theorem wt_and1 (ha : TT' X a uA) : WT X (.BoolOp .And [a] pos) uA := by
  refine ⟨fun wh pins s σ H Q hk I h => ?_⟩
  refine isTrue_and (thn (ha.run pins s σ H Q hk I h) fun c s1 e => ?_)
  cases c with
  | true => exact isTrue_and_nil e
  | false => exact e
theorem wt_or1 (ha : TT' X a uA) : WT X (.BoolOp .Or [a] pos) uA := by
  refine ⟨fun wh pins s σ H Q hk I h => ?_⟩
  refine isTrue_or (thn (ha.run pins s σ H Q hk I h) fun c s1 e => ?_)
  cases c with
  | false => exact isTrue_or_nil e
  | true => exact e
theorem wt_and (ha : TT' X a uA) (hb : WT X (.BoolOp .And (b :: rest') pos) uB) : WT X (.BoolOp .And (a :: b :: rest') pos) (tAnd uA uB) := by
  refine ⟨fun wh pins s σ H Q hk I h => ?_⟩
  refine isTrue_and (thnK hk (ha.run pins s σ H _ hk I h) fun c s1 k1 ⟨H1, I1, q1⟩ => ?_)
  cases c with
  | true => exact hb.run wh pins s1 σ H1 Q k1 I1 q1
  | false => exact ⟨H1, I1, q1⟩
theorem wt_or (ha : TT' X a uA) (hb : WT X (.BoolOp .Or (b :: rest') pos) uB) : WT X (.BoolOp .Or (a :: b :: rest') pos) (tOr uA uB) := by
  refine ⟨fun wh pins s σ H Q hk I h => ?_⟩
  refine isTrue_or (thnK hk (ha.run pins s σ H _ hk I h) fun c s1 k1 ⟨H1, I1, q1⟩ => ?_)
  cases c with
  | true => exact ⟨H1, I1, q1⟩
  | false => exact hb.run wh pins s1 σ H1 Q k1 I1 q1
theorem et_one {op} (h : ET X a ta) : ET X (.BoolOp op [a] pos) ta := ⟨fun pins s σ H Q hk I hw => BoolOp_one (h.run pins s σ H Q hk I hw)⟩
theorem et_and (ha : ET X a ta) (hb : ET X (.BoolOp .And (b :: rest') pos) tb) : ET X (.BoolOp .And (a :: b :: rest') pos) (tAndV ta tb) := by
  refine ⟨fun pins s σ H Q hk I h => ?_⟩
  refine BoolOp_and (thnK hk (ha.run pins s σ H _ hk I h) fun v s1 k1 ⟨x, H1, I1, r1, q1⟩ => ?_)
  obtain ⟨c, rfl, q1⟩ := q1
  cases r1
  refine wpAny_truthy_bool ?_
  cases c with
  | true => exact hb.run pins s1 σ H1 Q k1 I1 q1
  | false => exact ⟨.bl false, H1, I1, rfl, q1⟩
theorem et_or (ha : ET X a ta) (hb : ET X (.BoolOp .Or (b :: rest') pos) tb) : ET X (.BoolOp .Or (a :: b :: rest') pos) (tOrV ta tb) := by
  refine ⟨fun pins s σ H Q hk I h => ?_⟩
  refine BoolOp_or (thnK hk (ha.run pins s σ H _ hk I h) fun v s1 k1 ⟨x, H1, I1, r1, q1⟩ => ?_)
  obtain ⟨c, rfl, q1⟩ := q1
  cases r1
  refine wpAny_truthy_bool ?_
  cases c with
  | false => exact hb.run pins s1 σ H1 Q k1 I1 q1
  | true => exact ⟨.bl true, H1, I1, rfl, q1⟩
theorem et_not (ha : ET X a ta) : ET X (.UnaryOp .Not a pos) (tNotV ta) := by
  refine ⟨fun pins s σ H Q hk I h => ?_⟩
  refine UnaryOp_ (thn (ha.run pins s σ H _ hk I h) fun v s1 ⟨x, H1, I1, r1, q1⟩ => ?_)
  obtain ⟨c, rfl, q1⟩ := q1
  cases r1
  exact not_of (wpAny_truthy_bool ⟨.bl (!c), H1, I1, rfl, q1⟩)
theorem et_ifExp (hc : TT' X c uC) (ha : ET X a ta) (hb : ET X b tb) : ET X (.IfExp c a b pos) (tIf uC ta tb) := by
  refine ⟨fun pins s σ H Q hk I h => ?_⟩
  refine wpAny_IfExp (thnK hk (hc.run pins s σ H _ hk I h) fun d s1 k1 ⟨H1, I1, q1⟩ => ?_)
  cases d with
  | true => exact ha.run pins s1 σ H1 Q k1 I1 q1
  | false => exact hb.run pins s1 σ H1 Q k1 I1 q1
theorem et_tup {x1} (h : AT X es tx) : ET X (.Tuple es x1 pos) (tTup tx) := by
  refine ⟨fun pins s σ H Q hk I hq => ?_⟩
  refine wpAny_Tuple_spliced (thn (h.run pos pins s σ H _ hk I hq) fun us s1 ⟨xs, H1, I1, r, z, q⟩ => ⟨by rw [← r.length]; exact z, ?_⟩)
  have hf : H1 s1.heap.objs.size = none := I1.hok.fresh (Nat.le_refl _)
  refine ⟨.ref s1.heap.objs.size, upd H1 s1.heap.objs.size (.tup xs), I1.laid (t' := s1.toks) (fun b u e => Heap.get?_push_of_some _ e) (Nat.le_refl _) ?_, rfl, q _ hf⟩
  exact ⟨z, us, r, ⟨_, Heap.get?_push_size _ rfl, rfl, _, rfl⟩⟩
theorem et_lst (h : AT X es tx) : ET X (.List es pos) (tLst tx) := by
  refine ⟨fun pins s σ H Q hk I hq => ?_⟩
  refine wpAny_List_spliced (thn (h.run pos pins s σ H _ hk I hq) fun us s1 ⟨xs, H1, I1, r, z, q⟩ => ⟨by rw [← r.length]; exact z, ?_⟩)
  have hf : H1 s1.heap.objs.size = none := I1.hok.fresh (Nat.le_refl _)
  refine ⟨.ref s1.heap.objs.size, upd H1 s1.heap.objs.size (.lst xs), I1.laid (t' := s1.toks) (fun b u e => Heap.get?_push_of_some _ e) (Nat.le_refl _) ?_, rfl, q _ hf⟩
  exact ⟨z, us, 0, r, Heap.get?_push_size _ rfl⟩
/-- a method of a built-in type -/
theorem et_bm {T id : String} {name : Str} {apos cpos : Pos} {r : V → List V → Hp → VK → Prop} (pa : PlainAttrs T) (slot : Slot T name id) (hty : typeOf (.builtin id) = pure (.type "method_descriptor")) (hm : MtR X id r) (ho : ET X o to) (ha : AT X (e :: es) tx)
    (hbase : attributeBase o name X.env (eval o X.env) = eval o X.env := by rfl)
    (hfew : ((backTo cpos (starEach (e :: es) X.env)).all (fun x => !x.1) && (backToKw cpos (keywordEach [] X.env)).all (fun x => x.1.isSome)
      && decide ((e :: es).length + ([] : List Keyword).length + (if ([] : List Keyword).isEmpty then 0 else 1) < 30)) = true := by rfl)
    (hline : (apos.endLine == cpos.line) = true := by rfl) (hs : starEach (e :: es) X.env = (false, eval e X.env) :: starEach es X.env := by rfl) (hplain : (backTo cpos (starEach es X.env)).any (·.1) = false := by rfl) :
    ET X (.Call (.Attribute o name apos) (e :: es) [] cpos) (tBM X.K T r to tx) := by
  refine ⟨fun pins s σ H Q hk I h => ?_⟩
  refine wpAny_Call_method_late hbase hfew hline rfl (thnK hk (ho.run pins s σ H _ hk I h) fun v s1 k1 ⟨x, H1, I1, r1, ty, q1⟩ => ?_)
  obtain ⟨h1, h2⟩ := tyV_is I1 r1 ty
  refine ⟨T, id, pa, slot, hty, h1, h2, ?_⟩
  have hA := ha.run cpos pins s1 σ H1 _ k1 I1 q1
  rw [hs] at hA ⊢
  refine Calls.callWith_builtin (by show (false || (backTo cpos (starEach es X.env)).any (·.1)) = false; rw [hplain] <;> rfl) (Calls.evalArgs_plain ?_)
  exact thn hA fun us s2 ⟨vs, H2, I2, r2, q2⟩ => hm pins s2 σ H2 x vs v us Q I2 r1 r2 q2
/-- statements -/
theorem st_expr (he : ET X e te) (hs : swapsWith e none pos.line X.env = pure false := by rfl) : ST X (.Expr e pos) (tDrop te) :=
  ⟨fun pins s σ H D hk I h => wpAny_Expr_any (thn (he.run pins s σ H _ hk I h) fun v s1 ⟨x, H1, I1, r1, q1⟩ => ⟨σ, H1, I1, q1⟩) I.quiet hs⟩
theorem st_ret (he : ET X e te) : ST X (.Return (some e) pos) (tRet te) :=
  ⟨fun pins s σ H D hk I h => wpAny_Return_some (thn (he.run pins s σ H _ hk I h) fun v s1 ⟨x, H1, I1, r1, q1⟩ => ⟨x, σ, H1, I1, r1, q1⟩)⟩
theorem st_if (hc : TT' X c uC) (ha : BT X bd t) (hb : BT X bd' u) : ST X (.If c bd bd' pos) (tIfS uC t u) := by
  refine ⟨fun pins s σ H D hk I h => ?_⟩
  refine wpAny_If (thnK hk (hc.run pins s σ H _ hk I h) fun d s1 k1 ⟨H1, I1, q1⟩ => ?_)
  cases d with
  | true => exact ha.run pins s1 σ H1 D k1 I1 q1
  | false => exact hb.run pins s1 σ H1 D k1 I1 q1
theorem st_asg {tg : Expr} {g : TG} (he : ET X e te) (hg : PG X tg g) (hs : swapsWithSole [tg] e pos.line X.env = pure false := by rfl) (hw : swappedStores [tg] e X.env = pure none := by rfl)
    (h1 : (assignEach [tg] X.env).map (·.2) = [assign tg X.env] := by rfl) : ST X (.Assign [tg] e pos) (tAsg te g) := by
  refine ⟨fun pins s σ H D hk I h => ?_⟩
  refine wpAny_Assign_stores (thn (he.run pins s σ H _ hk I h) fun v s1 ⟨x, H1, I1, r1, q1⟩ => ?_) hs hw
  rw [h1]
  exact thn (hg.run pins s1 σ H1 x v _ I1 r1 q1) fun _ s2 q => q
theorem st_set {i : Nat} {x : Str} {pos' : Pos} (hN : X.N.Nodup) (hi : X.N[i]? = some x) (hx : Loc X.env.scope x) (he : ET X e te) (hs : swapsWith e (some (.Name x pos')) pos.line X.env = pure false := by rfl) (hf : X.fn x = true ∨ X.env.scope.names.lookup x = some .local := by first | exact .inl rfl | exact .inr rfl | assumption) :
    ST X (.Assign [.Name x pos'] e pos) (tAsg te (gName i)) := by
  refine ⟨fun pins s σ H D hk I h => ?_⟩
  refine wpAny_Assign_Name (thn (he.run pins s σ H _ hk I h) fun v s1 ⟨y, H1, I1, r1, q1⟩ => ?_) hs
  exact store_ok I1 hN hi hx r1 (fun s2 I2 => ⟨_, H1, I2, q1⟩) hf
theorem bt_nil : BT X [] tNext := .of pss_nil
theorem bt_one (h1 : ST X st t) : BT X [st] t := by
  refine ⟨fun pins s σ H D hk I h => ?_⟩
  refine wpAny_execs_cons (thn (h1.run pins s σ H D hk I h) fun f s1 q => ?_)
  cases f with
  | next => exact wpAny_execs_nil q
  | ret v => exact q
  | brk => exact q
  | cont => exact q
theorem bt_cons (h1 : ST X st t) (h2 : BT X rest u) : BT X (st :: rest) (tSeq t u) := by
  refine ⟨fun pins s σ H D hk I h => ?_⟩
  refine wpAny_execs_cons (thnK hk (h1.run pins s σ H { D with nx := u D } hk I h) fun f s1 k1 q => ?_)
  cases f with
  | next =>
    obtain ⟨σ', H', I', q⟩ := q
    exact h2.run pins s1 σ' H' D k1 I' q
  | ret v => exact q
  | brk => exact q
  | cont => exact q
theorem bt_cut (h1 : ST X st t) (h2 : BT X rest u) : BT X (st :: rest) (tCut t u) := by
  refine ⟨fun pins s σ H D hk I h => ?_⟩
  obtain ⟨Mid, hm, hu⟩ := h
  refine wpAny_execs_cons (thnK hk (h1.run pins s σ H { D with nx := Mid } hk I hm) fun f s1 k1 q => ?_)
  cases f with
  | next =>
    obtain ⟨σ', H', I', q⟩ := q
    exact h2.run pins s1 σ' H' D k1 I' (hu σ' H' q)
  | ret v => exact q
  | brk => exact q
  | cont => exact q
/-- behind a statement that gives a token out -/
theorem pssk_cons (h1 : SK X st t) (h2 : BT X rest u) : PSs X (st :: rest) (tSeq t u) := by
  refine ⟨fun pins s σ H D I h => ?_⟩
  refine wpAny_execs_cons (thn (h1.run pins s σ H { D with nx := u D } I h) fun f s1 ⟨k1, q⟩ => ?_)
  cases f with
  | next =>
    obtain ⟨σ', H', I', q⟩ := q
    exact h2.run pins s1 σ' H' D k1 I' q
  | ret v => exact q
  | brk => exact q
  | cont => exact q
theorem st_for {iter tg : Expr} {wi : TI} {g : TG} {tb : TS} (hp : PassesOwn (model X.prog X.w) X.A X.env X.xe) (hc : X.calm = true) (hi : PI X tg iter wi) (hg : PG X tg g) (hb : BT X bd tb)
    (hs : ∀ x, foldedSetIterable iter X.env x = pure x := by intro _; rfl) : ST X (.For tg iter bd [] pos) (tFor wi g tb) := by
  refine ⟨fun pins s σ H D hk I h => ?_⟩
  refine wpAny_For (thnK hk (hi.run pins s σ H _ I h) fun v s1 k1 h1 => thnK k1 h1 fun itv s2 k2 h2 => ?_) hs
  obtain ⟨it, fp, tn, J, H2, e, I2, T, st2, f2, W, ⟨m0, w0⟩, turn⟩ := h2
  subst e
  have stat : ∀ {H' : Hp}, (∀ b ∈ fp, H' b = none) → ∀ b ∈ fp, FpOk X pins H' b := fun hn b hb => ⟨hn b hb, (f2 b hb).2⟩
  refine codeAny_forLoop_any (fun n s' => 1 ≤ s'.toks ∧ ∃ i σ' H', Inv X pins σ' H' s' ∧ tn i s'.heap ∧ (∀ b ∈ fp, H' b = none) ∧ W i n σ' H') ?_ m0 ⟨k2, 0, σ, H2, I2, st2, fun b hb => (f2 b hb).1, w0⟩
  rintro n s3 ⟨k3, i, σ3, H3, I3, st3, fr3, w3⟩
  rcases turn i n σ3 H3 w3 with ⟨stop, qn⟩ | ⟨go, N, hN, step⟩
  · refine wpAny_passesOwn hp (thn (T.done X rfl rfl rfl hc i pins s3 σ3 H3 X.xe I3 (stat fr3) st3 stop) fun r s4 ⟨hr, I4⟩ => ?_)
    subst hr
    exact wpAny_execs_nil ⟨σ3, H3, I4, qn⟩
  · refine wpAny_passesOwn hp (thnK k3 (T.item X rfl rfl rfl hc i pins s3 σ3 H3 X.xe I3 (stat fr3) st3 go) fun r s4 k4 ⟨u, hr, h4⟩ => ?_)
    subst hr
    refine wpAny_passesOwn hp (thnK k4 h4 fun _ s5 k5 ⟨x, H5, I5, r5, y5, st5, fr5⟩ => ?_)
    have I5' := I5.pinned (stat fr5) (T.obj _ _ st5)
    refine wpAny_passesOwn hp (thnK k5 (hg.run _ s5 σ3 H5 x u _ I5' r5 (step x H5 y5)) fun _ s6 k6 ⟨σ6, H6, I6, q6⟩ => ?_)
    refine wpAny_passesOwn hp (thnK k6 (hb.run _ s6 σ6 H6 _ k6 I6 q6) fun f s7 k7 q7 => ?_)
    have again : ∀ {σ7 : L2.St} {H7 : Hp}, Inv X (pins ++ pinsAt fp s5.heap) σ7 H7 s7 → N σ7 H7 → ∃ m, m < n ∧ 1 ≤ s7.toks ∧ ∃ i σ' H', Inv X pins σ' H' s7 ∧ tn i s7.heap ∧ (∀ b ∈ fp, H' b = none) ∧ W i m σ' H' := fun {σ7 H7} I7 n7 => by
      obtain ⟨m', hm, w7⟩ := hN σ7 H7 n7
      refine ⟨m', hm, k7, i + 1, σ7, H7, I7.unpinned, T.keep _ _ _ st5 fun b hb o e => (I7.pin (b, o) (List.mem_append_right _ (List.mem_append_right _ (mem_pinsAt hb e)))).1, fun b hb => ?_, w7⟩
      obtain ⟨o, e, d⟩ := T.obj _ _ st5 b hb
      exact (I7.pin (b, o) (List.mem_append_right _ (List.mem_append_right _ (mem_pinsAt hb e)))).2.1
    cases f with
    | next => obtain ⟨σ7, H7, I7, n7⟩ := q7; exact again I7 n7
    | cont => obtain ⟨σ7, H7, I7, n7⟩ := q7; exact again I7 n7
    | brk => obtain ⟨σ7, H7, I7, q7⟩ := q7; exact ⟨σ7, H7, I7.unpinned, q7⟩
    | ret v => obtain ⟨x7, σ7, H7, I7, r7, q7⟩ := q7; exact ⟨x7, σ7, H7, I7.unpinned, r7, q7⟩
theorem st_while {tb : TS} (hp : PassesOwn (model X.prog X.w) X.A X.env X.xe) (hc : TT' X c uC) (hb : BT X bd tb) : ST X (.While c bd [] pos) (tWhile uC tb) := by
  refine ⟨fun pins s σ H D hk I h => ?_⟩
  obtain ⟨W, ⟨m0, w0⟩, turn⟩ := h
  refine wpAny_While (codeAny_whileLoop (fun n s' => 1 ≤ s'.toks ∧ ∃ σ' H', Inv X pins σ' H' s' ∧ W n σ' H') ?_ m0 ⟨hk, σ, H, I, w0⟩)
  rintro n s1 ⟨k1, σ1, H1, I1, w1⟩
  refine wpAny_passesOwn hp (thnK k1 (hc.run pins s1 σ1 H1 _ k1 I1 (turn n σ1 H1 w1)) fun b s2 k2 ⟨H2, I2, q2⟩ => ?_)
  cases b with
  | true =>
    obtain ⟨N, hN, q2⟩ := q2
    rw [if_pos rfl]
    refine wpAny_passesOwn hp (thnK k2 (hb.run pins s2 σ1 H2 _ k2 I2 q2) fun f s3 k3 q3 => ?_)
    cases f with
    | next =>
      obtain ⟨σ3, H3, I3, n3⟩ := q3
      obtain ⟨m', hm, w3⟩ := hN σ3 H3 n3
      exact ⟨m', hm, k3, σ3, H3, I3, w3⟩
    | cont =>
      obtain ⟨σ3, H3, I3, n3⟩ := q3
      obtain ⟨m', hm, w3⟩ := hN σ3 H3 n3
      exact ⟨m', hm, k3, σ3, H3, I3, w3⟩
    | brk => exact q3
    | ret v => exact q3
  | false =>
    rw [if_neg Bool.false_ne_true]
    exact wpAny_execs_nil ⟨σ1, H2, I2, q2⟩
/-- calls of own defs -/
theorem run_fnT {CX : CXT} {k : Nat} {f : Addr} {fd : FuncData} {ps : List Str} {ds : List Value} {dvs : List V} {sp : Sp} {E : XK} {pins : List (Addr × Obj)} {σ : L2.St} {H : Hp} {s : Shared} {Q : VK} {us : List Value} {vs : List V} (F : FnT X.prog X.w X.K X.mg X.base CX k f fd ps sp) (hr : Room k X.A) (hb : Binds X.K fd ps ds) (hd : Vals dvs ds) (hx : Passes CX X E)
    (hk : 1 ≤ s.toks) (I : Inv X pins σ H s) (r : Vals vs us) (h : sp (vs ++ dvs) H Q E) : wpAny (model X.prog X.w) X.A (call (.ref f) us) (EP X pins σ Q) X.xe s := by
  have r2 : Vals (vs ++ dvs) (us ++ ds) := r.append hd
  have hl : (us ++ ds).length = ps.length := by rw [← r2.length]; exact F.len _ _ _ _ h
  refine wpAny_call (codeAny_mono (F.run X.A X.stack s H ⟨us, []⟩ (us ++ ds) (vs ++ dvs) Q E hk hr I.env0 (hb s us I.kIn hl) r2 h) fun r s' hq => ?_)
  cases r with
  | error e => exact hx pins σ H s e s' I hq
  | ok fl =>
    cases fl with
    | ret u => exact I.after hq
    | next => exact False.elim hq
    | brk => exact False.elim hq
    | cont => exact False.elim hq
theorem run_fnK {CX : CXT} {k : Nat} {f : Addr} {fd : FuncData} {ps : List Str} {ds : List Value} {dvs : List V} {sp : Sp} {E : XK} {pins : List (Addr × Obj)} {σ : L2.St} {H : Hp} {s : Shared} {Q : VK} {us : List Value} {vs : List V} (F : FnK X.prog X.w X.K X.mg X.base CX k f fd ps sp) (hr : Room k X.A) (hb : Binds X.K fd ps ds) (hd : Vals dvs ds) (hx : Passes CX X E)
    (I : Inv X pins σ H s) (r : Vals vs us) (h : sp (vs ++ dvs) H Q E) : wpAny (model X.prog X.w) X.A (call (.ref f) us) (fun u s' => 1 ≤ s'.toks ∧ EP X pins σ Q u s') X.xe s := by
  have r2 : Vals (vs ++ dvs) (us ++ ds) := r.append hd
  have hl : (us ++ ds).length = ps.length := by rw [← r2.length]; exact F.len _ _ _ _ h
  refine wpAny_call (codeAny_mono (F.run X.A X.stack s H ⟨us, []⟩ (us ++ ds) (vs ++ dvs) Q E hr I.env0 (hb s us I.kIn hl) r2 h) fun r s' hq => ?_)
  cases r with
  | error e => exact hx pins σ H s e s' I hq.2
  | ok fl =>
    cases fl with
    | ret u => exact ⟨hq.1.elim (fun ⟨_, z⟩ => nomatch z) _root_.id, I.after hq.2⟩
    | next => exact False.elim hq.2
    | brk => exact False.elim hq.2
    | cont => exact False.elim hq.2
variable {x : Str} {k : Nat} {ps : List Str} {dvs : List V} {sp : Sp} {p : Pos}
theorem et_own (O : OwnT X.prog X.w X.K X.mg X.base x k ps dvs sp) (hr : Room k X.A) (hg : Gl X x) (ha : AT X (e :: es) tx) (hdb : (x == ("__debug__" : Str)) = false := by decide) (he : starEach (e :: es) X.env = (false, eval e X.env) :: starEach es X.env := by rfl) (hpl : (backTo pos (starEach es X.env)).any (·.1) = false := by rfl) :
    ET X (.Call (.Name x p) (e :: es) [] pos) (tCall sp dvs E0 tx) := by
  obtain ⟨f, fd, ds, F, hm, hkp, hb, hd⟩ := O.ex
  refine ⟨fun pins s σ H Q hk I h => ?_⟩
  refine wpAny_Call_Name_kw (ld_glob I hg hm ?_ hdb)
  refine PySem.W.callWith_K (h₀ := X.base) I.ok.mod.kin hkp (thnK hk (ha.run pos pins s σ H _ hk I h) fun us s1 k1 ⟨vs, H1, I1, r, q⟩ => ⟨I1.kIn, ?_⟩) he hpl
  exact run_fnT F hr hb hd pass0 k1 I1 r q
/-- a call of a def without tokens' care, its arguments with it -/
theorem et_ownP (O : Own X.prog X.w X.K X.mg X.base x k ps dvs sp) (hr : Room k X.A) (hg : Gl X x) (ha : AT X (e :: es) tx) (hdb : (x == ("__debug__" : Str)) = false := by decide) (he : starEach (e :: es) X.env = (false, eval e X.env) :: starEach es X.env := by rfl) (hpl : (backTo pos (starEach es X.env)).any (·.1) = false := by rfl) :
    ET X (.Call (.Name x p) (e :: es) [] pos) (tCall sp dvs E0 tx) := by
  obtain ⟨f, fd, ds, F, hm, hkp, hb, hd⟩ := O.ex
  refine ⟨fun pins s σ H Q hk I h => ?_⟩
  refine wpAny_Call_Name_kw (ld_glob I hg hm ?_ hdb)
  refine PySem.W.callWith_K (h₀ := X.base) I.ok.mod.kin hkp (thnK hk (ha.run pos pins s σ H _ hk I h) fun us s1 k1 ⟨vs, H1, I1, r, q⟩ => ⟨I1.kIn, ?_⟩) he hpl
  exact run_fn F hr hb hd pass0 I1 r q
theorem ek_own (O : OwnK X.prog X.w X.K X.mg X.base x k ps dvs sp) (hr : Room k X.A) (hg : Gl X x) (ha : PA X (e :: es) tx) (hdb : (x == ("__debug__" : Str)) = false := by decide) (he : starEach (e :: es) X.env = (false, eval e X.env) :: starEach es X.env := by rfl) (hpl : (backTo pos (starEach es X.env)).any (·.1) = false := by rfl) :
    EK X (.Call (.Name x p) (e :: es) [] pos) (tCall sp dvs E0 tx) := by
  obtain ⟨f, fd, ds, F, hm, hkp, hb, hd⟩ := O.ex
  refine ⟨fun pins s σ H Q I h => ?_⟩
  refine wpAny_Call_Name_kw (ld_glob I hg hm ?_ hdb)
  refine PySem.W.callWith_K (h₀ := X.base) I.ok.mod.kin hkp (thn (ha.run pos pins s σ H _ I h) fun us s1 ⟨vs, H1, I1, r, q⟩ => ⟨I1.kIn, ?_⟩) he hpl
  exact run_fnK F hr hb hd pass0 I1 r q
theorem sk_set {i : Nat} {y : Str} {pos' : Pos} (hN : X.N.Nodup) (hi : X.N[i]? = some y) (hx : Loc X.env.scope y) (he : EK X e te) (hs : swapsWith e (some (.Name y pos')) pos.line X.env = pure false := by rfl) (hf : X.fn y = true ∨ X.env.scope.names.lookup y = some .local := by first | exact .inl rfl | exact .inr rfl | assumption) :
    SK X (.Assign [.Name y pos'] e pos) (tAsg te (gName i)) := by
  refine ⟨fun pins s σ H D I h => ?_⟩
  refine wpAny_Assign_Name (thn (he.run pins s σ H _ I h) fun v s1 ⟨k1, z, H1, I1, r1, q1⟩ => ?_) hs
  exact thnK k1 (store_ok (Q := fun _ s2 => SP X pins D .next s2) I1 hN hi hx r1 (fun s2 I2 => ⟨_, H1, I2, q1⟩) hf) fun _ s2 k2 q => ⟨k2, q⟩
/-- what gives a token out: a written number among the items of a list -/
theorem ek_int {n : Int} {j : Nat} : EK X (.Constant (.int n) j pos) (tC (.int n)) :=
  ⟨fun pins s σ H Q I h => wpAny_Constant_int ⟨Nat.le_add_left 1 _, .int n, H, I.tok _, ⟨_, rfl⟩, h⟩⟩
theorem ak_here (ha : EK X e te) (hr : PA X es tx) (hs : starEach (e :: es) X.env = (false, eval e X.env) :: starEach es X.env := by rfl) : AK X (e :: es) (tCons te tx) := by
  refine ⟨fun pos pins s σ H Q I h => ?_⟩
  rw [hs]
  show wpAny _ _ (spliced ((false, eval e X.env) :: backTo pos (starEach es X.env))) _ _ s
  refine Calls.spliced_cons (thn (ha.run pins s σ H _ I h) fun v s1 ⟨k1, x, H1, I1, r1, q1⟩ => ?_)
  exact thnK k1 (hr.run pos pins s1 σ H1 _ I1 q1) fun us s2 k2 ⟨xs, H2, I2, r2, q2⟩ => ⟨k2, x :: xs, H2, I2, .cons r1 r2, q2⟩
theorem ak_there (ha : PE X e te) (hr : AK X es tx) (hs : starEach (e :: es) X.env = (false, eval e X.env) :: starEach es X.env := by rfl) : AK X (e :: es) (tCons te tx) := by
  refine ⟨fun pos pins s σ H Q I h => ?_⟩
  rw [hs]
  show wpAny _ _ (spliced ((false, eval e X.env) :: backTo pos (starEach es X.env))) _ _ s
  refine Calls.spliced_cons (thn (ha.run pins s σ H _ I h) fun v s1 ⟨x, H1, I1, r1, q1⟩ => ?_)
  exact thn (hr.run pos pins s1 σ H1 _ I1 q1) fun us s2 ⟨k2, xs, H2, I2, r2, q2⟩ => ⟨k2, x :: xs, H2, I2, .cons r1 r2, q2⟩
theorem ek_lst (h : AK X es tx) : EK X (.List es pos) (tLst tx) := by
  refine ⟨fun pins s σ H Q I hq => ?_⟩
  refine wpAny_List_spliced (thn (h.run pos pins s σ H _ I hq) fun us s1 ⟨k1, xs, H1, I1, r, z, q⟩ => ⟨by rw [← r.length]; exact z, ?_⟩)
  have hf : H1 s1.heap.objs.size = none := I1.hok.fresh (Nat.le_refl _)
  refine ⟨k1, .ref s1.heap.objs.size, upd H1 s1.heap.objs.size (.lst xs), I1.laid (t' := s1.toks) (fun b u e => Heap.get?_push_of_some _ e) (Nat.le_refl _) ?_, rfl, q _ hf⟩
  exact ⟨z, us, 0, r, Heap.get?_push_size _ rfl⟩
theorem sk_ret (he : EK X e te) : SK X (.Return (some e) pos) (tRet te) :=
  ⟨fun pins s σ H D I h => wpAny_Return_some (thn (he.run pins s σ H _ I h) fun v s1 ⟨k1, x, H1, I1, r1, q1⟩ => ⟨k1, x, σ, H1, I1, r1, q1⟩)⟩
theorem bk_one (h1 : SK X st t) : BK X [st] t := by
  refine ⟨fun pins s σ H D I h => ?_⟩
  refine wpAny_execs_cons (thn (h1.run pins s σ H D I h) fun f s1 ⟨k1, q⟩ => ?_)
  cases f with
  | next => exact wpAny_execs_nil ⟨k1, q⟩
  | ret v => exact ⟨k1, q⟩
  | brk => exact ⟨k1, q⟩
  | cont => exact ⟨k1, q⟩
end

/-! ### defs by their bodies: plain, from states with a token, giving one out -/
theorem BT.nox {X : Cx} {st : List Stmt} {t : TS} (h : BT X.nox st t) : BT X st t := ⟨fun pins s σ H D hk I hw =>
  wpAny_mono (h.run pins s σ H D hk (I.wish _) hw) (fun _ _ q => q.unwish) fun _ _ z => False.elim z⟩
theorem BK.nox {X : Cx} {st : List Stmt} {t : TS} (h : BK X.nox st t) : BK X st t := ⟨fun pins s σ H D I hw =>
  wpAny_mono (h.run pins s σ H D (I.wish _) hw) (fun _ _ q => ⟨q.1, q.2.unwish⟩) fun _ _ z => False.elim z⟩
abbrev Fn (K : PySem.W.Frag) (x : Str) (st : Stmt) (dvs : List V) (f : Addr) (fd : FuncData) : Prop := FunD K x x (defArgs st) (defBody st) (defScope st) dvs [] f fd
section
variable {P : Program} {w : World} {K : PySem.W.Frag} {mg : Str → Option Value} {base : Heap} {x : Str} {st : Stmt} {dvs : List V} {f : Addr} {fd : FuncData} {N ps : List Str} {k : Nat} {sp : Sp}
theorem Fn.mk' {oc dV kV doc pm cdv ct : Value} {od an : Option Addr} {osl : Array (Option Value)} (l : K.lookup f = some ⟨oc, od, .func (PySem.W.fnOf x x (defArgs st) (defBody st) (defScope st) dV kV doc pm an cdv ct), osl⟩)
    (c : PySem.W.codeIn K cdv x = true) (h : PySem.W.keepIn K (.ref f) = true) (d : DflV K dV dvs) : Fn K x st dvs f (PySem.W.fnOf x x (defArgs st) (defBody st) (defScope st) dV kV doc pm an cdv ct) :=
  ⟨⟨oc, od, dV, kV, doc, pm, an, cdv, ct, osl, rfl, l, c, d, .inl rfl⟩, h⟩
theorem Fn.okN (F : Fn K x st dvs f fd) (S : FnScope N ps (defScope st)) (len : ∀ vs H Q E, sp vs H Q E → vs.length = ps.length)
    (hbody : ∀ (cdv : Value) (A : Around) (outer : List Env) (s : Shared) (H : Hp) (vs : List V) (Q : VK) (E : XK), Room k (A.deeper (envOfC x (defScope st) s.heap.objs.size f cdv)) → sp vs H Q E →
      ∃ t, PSs (cxOf CX0 P w K mg base N x (defScope st) f cdv A outer s H E).nox (defBody st) t ∧ t { nx := fun _ H' => Q .non H', rt := Q } (start N vs) H) : FnOk P w K mg base CX0 (k + 1) f fd ps sp :=
  FunD.ok F S len fun cdv A outer s H vs Q E hr hsp => by
    obtain ⟨t, h, q⟩ := hbody cdv A outer s H vs Q E hr hsp
    exact ⟨t, h.nox, q⟩
theorem Fn.okT (F : Fn K x st dvs f fd) (S : FnScope N ps (defScope st)) (len : ∀ vs H Q E, sp vs H Q E → vs.length = ps.length)
    (hbody : ∀ (cdv : Value) (A : Around) (outer : List Env) (s : Shared) (H : Hp) (vs : List V) (Q : VK) (E : XK), Room k (A.deeper (envOfC x (defScope st) s.heap.objs.size f cdv)) → sp vs H Q E →
      ∃ t, BT (cxOf CX0 P w K mg base N x (defScope st) f cdv A outer s H E).nox (defBody st) t ∧ t { nx := fun _ H' => Q .non H', rt := Q } (start N vs) H) : FnT P w K mg base CX0 (k + 1) f fd ps sp := by
  obtain ⟨oc, od, dV, kV, doc, pm, an, cdv, ct, osl, rfl, lk, hcd, _, _⟩ := F.ex
  refine ⟨len, fun A outer s H args us vs Q E hk hr e0 hb r hsp => ?_⟩
  have hl := len _ _ _ _ hsp
  have KX : K.In s.heap := e0.mod.kin.keeps fun b o e => (e0.bs b o e).1
  have lim : s.heap.NoLimit := e0.mod.nolimit.keeps fun b o e => (e0.bs b o e).1
  have hkind : ∀ y ∈ ps.zip us, (defScope st).names.lookup y.1 = some .local ∨ ((defScope st).names.lookup y.1 = some .cell ∧ ((cellsFrom (s.heap.objs.size + 1) (defScope st).names []).lookup y.1).isSome = true) := fun ⟨n, v⟩ hy => by
    rcases S.par n (List.of_mem_zip hy).1 with q | q
    · exact .inl q
    · exact .inr ⟨q, PySem.W.cellsFrom_some _ _ _ (.inl q)⟩
  refine codeAny_call_function hr.depth (KX _ _ lk) rfl S.co S.gen rfl (PySem.W.codeRec_of KX hcd) (hb _ _ _ _ ?_)
  refine PySem.wpAny_with_toks hk ?_
  refine wpAny_newFunctionEnv_cells S.kind hkind fun env he s1 xx => ?_
  intro k1
  subst he
  refine ⟨lim.keeps xx.toInCall.keep, codeAny_func ?_⟩
  obtain ⟨t, ht, hq⟩ := hbody cdv A outer s H vs Q E (hr.deeper _) hsp
  have I : Inv (cxOf CX0 P w K mg base N x (defScope st) f cdv A outer s H E) [] (start N vs) H s1 := inv_start S hr.hd e0 hl r xx
  refine wpAny_mono (ht.nox.run [] s1 (start N vs) H _ k1 I hq) (fun fl s' hs => ?_) fun e s' hs => hs
  have fin : ∀ {σ' : L2.St} {H' : Hp} {v : V} {u : Value}, Inv (cxOf CX0 P w K mg base N x (defScope st) f cdv A outer s H E) [] σ' H' s' → RelV v u → Q v H' → CE outer P w H s Q u s' :=
    fun {σ' H' v u} J rv q => ⟨v, H', J.os, J.bare, J.base, J.hok, rv, q⟩
  cases fl with
  | ret u =>
    obtain ⟨v, σ', H', J, rv, q⟩ := hs
    exact fin J rv q
  | next =>
    obtain ⟨σ', H', J, q⟩ := hs
    exact fin (v := V.non) (u := Value.none) J rfl q
  | brk =>
    obtain ⟨_, _, _, q⟩ := hs
    exact False.elim q
  | cont =>
    obtain ⟨_, _, _, q⟩ := hs
    exact False.elim q
theorem Fn.okK (F : Fn K x st dvs f fd) (S : FnScope N ps (defScope st)) (len : ∀ vs H Q E, sp vs H Q E → vs.length = ps.length)
    (hbody : ∀ (cdv : Value) (A : Around) (outer : List Env) (s : Shared) (H : Hp) (vs : List V) (Q : VK) (E : XK), Room k (A.deeper (envOfC x (defScope st) s.heap.objs.size f cdv)) → sp vs H Q E →
      ∃ t, BK (cxOf CX0 P w K mg base N x (defScope st) f cdv A outer s H E).nox (defBody st) t ∧ t { nx := fun _ H' => Q .non H', rt := Q } (start N vs) H) : FnK P w K mg base CX0 (k + 1) f fd ps sp := by
  obtain ⟨oc, od, dV, kV, doc, pm, an, cdv, ct, osl, rfl, lk, hcd, _, _⟩ := F.ex
  refine ⟨len, fun A outer s H args us vs Q E hr e0 hb r hsp => ?_⟩
  have hl := len _ _ _ _ hsp
  have KX : K.In s.heap := e0.mod.kin.keeps fun b o e => (e0.bs b o e).1
  have lim : s.heap.NoLimit := e0.mod.nolimit.keeps fun b o e => (e0.bs b o e).1
  have hkind : ∀ y ∈ ps.zip us, (defScope st).names.lookup y.1 = some .local ∨ ((defScope st).names.lookup y.1 = some .cell ∧ ((cellsFrom (s.heap.objs.size + 1) (defScope st).names []).lookup y.1).isSome = true) := fun ⟨n, v⟩ hy => by
    rcases S.par n (List.of_mem_zip hy).1 with q | q
    · exact .inl q
    · exact .inr ⟨q, PySem.W.cellsFrom_some _ _ _ (.inl q)⟩
  refine codeAny_call_function hr.depth (KX _ _ lk) rfl S.co S.gen rfl (PySem.W.codeRec_of KX hcd) (hb _ _ _ _ ?_)
  refine wpAny_newFunctionEnv_cells S.kind hkind fun env he s1 xx => ?_
  subst he
  refine ⟨lim.keeps xx.toInCall.keep, codeAny_func ?_⟩
  obtain ⟨t, ht, hq⟩ := hbody cdv A outer s H vs Q E (hr.deeper _) hsp
  have I : Inv (cxOf CX0 P w K mg base N x (defScope st) f cdv A outer s H E) [] (start N vs) H s1 := inv_start S hr.hd e0 hl r xx
  refine wpAny_mono (ht.nox.run [] s1 (start N vs) H _ I hq) (fun fl s' hs => ?_) fun e s' hs => ?_
  · obtain ⟨kk, hs⟩ := hs
    have fin : ∀ {σ' : L2.St} {H' : Hp} {v : V} {u : Value}, Inv (cxOf CX0 P w K mg base N x (defScope st) f cdv A outer s H E) [] σ' H' s' → RelV v u → Q v H' → ((∃ e : Value, (Except.ok (Flow.ret u) : Result) = .error e) ∨ 1 ≤ s'.toks) ∧ CE outer P w H s Q u s' :=
      fun {σ' H' v u} J rv q => ⟨.inr kk, v, H', J.os, J.bare, J.base, J.hok, rv, q⟩
    cases fl with
    | ret u =>
      obtain ⟨v, σ', H', J, rv, q⟩ := hs
      exact fin J rv q
    | next =>
      obtain ⟨σ', H', J, q⟩ := hs
      have z := fin (v := V.non) (u := Value.none) J rfl q
      exact ⟨.inr kk, z.2⟩
    | brk =>
      obtain ⟨_, _, _, q⟩ := hs
      exact False.elim q
    | cont =>
      obtain ⟨_, _, _, q⟩ := hs
      exact False.elim q
  · exact wpAny_mono hs (fun _ _ z => ⟨.inl ⟨_, rfl⟩, z⟩) (fun _ _ z => ⟨.inl ⟨_, rfl⟩, z⟩)
end

/-! ### further rules: text.replace of written texts, get of a written dict, in a tuple of data -/
section
variable {X : Cx} {o e : Expr} {to te : TE}
def tRepl (y z : Str) (to : TE) : TE := fun σ H Q => to σ H fun x H1 => ∃ a : Str, x = .str a ∧ a.length + (a.length + 1) * z.length ≤ 16777216 ∧ Q (.str (Txt.replace a y z)) H1
theorem et_repl {y z : Str} {j0 j1 : Nat} {c0 c1 apos pos : Pos} (ho : ET X o to) (hyz : (y == z) = false) (hst : starEach [.Constant (.str y) j0 c0, .Constant (.str z) j1 c1] X.env = [(false, eval (.Constant (.str y) j0 c0) X.env), (false, eval (.Constant (.str z) j1 c1) X.env)] := by rfl)
    (hbase : attributeBase o "replace" X.env (eval o X.env) = eval o X.env := by rfl) (hline : (apos.endLine == pos.line) = true := by rfl) :
    ET X (.Call (.Attribute o "replace" apos) [.Constant (.str y) j0 c0, .Constant (.str z) j1 c1] [] pos) (tRepl y z to) := by
  refine ⟨fun pins s σ H Q hk I h => ?_⟩
  refine PySem.Call_method2 hbase hst hline (thnK hk (ho.run pins s σ H _ hk I h) fun v s1 k1 ⟨x, H1, I1, r1, a, ex, hb, q⟩ => ?_)
  subst ex
  obtain ⟨tx, rfl⟩ := r1
  refine ⟨"str", _, PySem.F.plainAttrs_str, PySem.F.slot_str_replace, PySem.F.type_str_replace, typeIs_str _ _ _, (fun _ e => nomatch e), Calls.callWith_builtin rfl (Calls.evalArgs_plain (Calls.spliced_cons (Calls.Constant_str (Calls.spliced_cons (Calls.Constant_str (Calls.spliced_nil ?_))))))⟩
  exact PySem.SC.replace (show s1.toks ≠ 0 by omega) (show s1.toks + 1 ≠ 0 by omega) (show s1.toks ≠ s1.toks + 1 by omega) hyz hb fun t' k => ⟨.str (Txt.replace a y z), H1, I1.tok k, ⟨t', rfl⟩, q⟩
/-- d.get(key) of a written dict with text keys -/
def tKGet (K : PySem.W.Frag) (d : Addr) (to te : TE) : TE := fun σ H Q => to σ H fun x H1 => x = .ref d ∧ te σ H1 fun y H2 => ∃ (z : Str) (r : Option Value) (v : V), y = .str z ∧ PySem.W.nsIn K d z = some r ∧ RelV v (r.getD .none) ∧ Q v H2
theorem pe_kget {d : Addr} {es : Array DictEntry} {n : Nat} {apos cpos : Pos} (D : KDict X.K X.w d es n) (ho : PE X o to) (he : PE X e te) (m : M1 X o "get" apos e cpos) : PE X (.Call (.Attribute o "get" apos) [e] [] cpos) (tKGet X.K d to te) := by
  refine ⟨fun pins s σ H Q I h => ?_⟩
  refine wpAny_Call_method m.base m.few m.line PySem.F.plainAttrs_dict PySem.F.slot_dict_get PySem.F.type_dict_get (thn (ho.run pins s σ H _ I h) fun u s1 ⟨x, H1, I1, rx, ex, q1⟩ => ?_)
  subst ex
  obtain rfl : u = Value.ref d := rx
  refine ⟨kd_type D I1, fun a ea => ?_, ?_⟩
  · cases ea
    exact ⟨_, I1.kIn _ _ D.at_, rfl⟩
  rw [m.trees]
  refine Calls.callWith_builtin rfl (Calls.evalArgs_plain (Calls.spliced_cons (thn (he.run pins s1 σ H1 _ I1 q1) fun iv s2 ⟨y, H2, I2, ry, z, r, v, ey, e, rv, q2⟩ => Calls.spliced_nil ?_)))
  subst ey
  obtain ⟨t, rfl⟩ := ry
  refine call_meetsIn PySem.F.slot_dict_get (kd_type D I2) PySem.F.entry_dict_get (PySem.F.args_dict_get_2 _ _) (meets_dict_get (PySem.strKind X.prog X.w) d (PySem.strKind_is X.prog X.w z t) D.low) ⟨_, PySem.W.mapOf_K (prog := X.prog) I2.kIn D.at_ D.lit, ?_⟩
  rw [PySem.W.find_K D.at_ e]
  exact ⟨v, H2, I2.tok _, rv, q2⟩
/-- x in (.., ..), the items data of any depth -/
def rInT (K : PySem.W.Frag) : R2 := fun x y H Q => ∃ d ds, Dp K H x d ∧ Dp K H y (.tuple ds) ∧ SeqAt.shaped d = true ∧ SeqAt.shaped (.tuple ds) = true ∧ d.depth ≤ 60 ∧ Q (.bl (ds.any fun z => PyData.eqv z d)) H
theorem op_inT (hu : X.A.units + 64 < cLine) : OpR X (compareOp .In) (rInT X.K) := by
  intro pins s σ H x y v u Q I rx ry h
  obtain ⟨d, ds, hd, he, sd, se, dl, q⟩ := h
  obtain ⟨as, r1⟩ := Dp.reads I d x v hd rx
  obtain ⟨bs, r2⟩ := Dp.reads I (.tuple ds) y u he ry
  exact SeqAt.in_tuple_reads r2 r1 (SeqAt.canLay_of_shaped se) (SeqAt.canLay_of_shaped sd) (by omega) ⟨.bl _, H, I, rfl, q⟩
end
section
variable {X : Cx} {a : Expr} {ta : TE}
def tTr (K' : PySem.W.Frag) (ta : TE) : TT := fun σ H Q => ta σ H fun x H1 => ∃ k, TruV K' x H1 k ∧ Q k H1
theorem pt_tr {K' : PySem.W.Frag} (ha : PE X a ta) (hK : X.K = K' := by rfl) (he : ∀ whole, isTrue a X.env whole = (do let v ← whole; standAt a.pos; holding [v] (truthy v)) := by intro _; rfl) : PT X a (tTr K' ta) := by
  subst hK
  exact pt_truth ha he
end

/-! ### a text times a number; pairs of texts -/
theorem op_repS {X : Cx} : OpR X (binaryOp .Mult) (fun x y H Q => ∃ (z : Str) (n : Int), x = .str z ∧ y = .int n ∧ MulOk z n ∧ Q (.str (Txt.mul z n)) H) := by
  intro pins s σ H x y v u Q I rx ry h
  obtain ⟨z, n, rfl, rfl, ok, q⟩ := h
  obtain ⟨t, rfl⟩ := rx
  obtain ⟨t', rfl⟩ := ry
  exact PySem.SB.mul ok fun t' k => ⟨.str (Txt.mul z n), H, I.tok _, ⟨_, rfl⟩, q⟩

/-! ### texts of lists of signs -/
def mk (l : List Nat) : Str := ⟨l.toArray⟩
theorem tl_mk' (l : List Nat) : tl (mk l) = l := rfl
theorem mk_tl' (x : Str) : mk (tl x) = x := ext_tl rfl
theorem mk_len (l : List Nat) : (mk l).length = l.length := by rw [len_tl]; rfl
theorem join_mk (y : List Nat) (ps : List (List Nat)) : Txt.join (mk y) (ps.map mk) = mk (joinL y ps) := by
  refine ext_tl ?_
  rw [join_eq, tl_join, List.map_map]
  show joinL y (ps.map (tl ∘ mk)) = joinL y ps
  have : (tl ∘ mk) = id := by
    funext l
    rfl
  rw [this, List.map_id]
theorem take_filter {α : Type} (p : α → Bool) {l : List α} {i : Nat} {a : α} (h : l[i]? = some a) : (l.take (i + 1)).filter p = (l.take i).filter p ++ (if p a then [a] else []) := by
  rw [List.take_add_one, h, List.filter_append]
  show _ ++ List.filter p [a] = _
  rw [List.filter_cons]
  rfl

/-! ### a text, sign by sign; texts joined -/
theorem for_str {x : Str} {g : TG} {tb : TS} {D : Ends} {σ : L2.St} {H : Hp} (Pv : Nat → L2.St → Hp → Prop) (h0 : Pv 0 σ H)
    (hs : ∀ i c σ H, (tl x)[i]? = some c → Pv i σ H → g (.str ⟨#[c]⟩) σ H fun σ2 H2 => tb { D with nx := Pv (i + 1), ct := Pv (i + 1), bk := D.nx } σ2 H2) (hd : ∀ σ H, Pv (tl x).length σ H → D.nx σ H) :
    ∃ W : Nat → Nat → L2.St → Hp → Prop, (∃ m, W 0 m σ H) ∧ ∀ i m σ H, W i m σ H →
      ((Its x).stop i H ∧ D.nx σ H) ∨ ((Its x).go i H ∧ ∃ N : L2.St → Hp → Prop, (∀ σ' H', N σ' H' → ∃ m', m' < m ∧ W (i + 1) m' σ' H') ∧ ∀ y H', (Its x).yld i H y H' → g y σ H' fun σ2 H2 => tb { D with nx := N, ct := N, bk := D.nx } σ2 H2) := by
  have sz : x.cps.size = (tl x).length := by simp [tl]
  refine ⟨fun i m σ H => m = (tl x).length - i ∧ i ≤ (tl x).length ∧ Pv i σ H, ⟨(tl x).length, by simp, Nat.zero_le _, h0⟩, ?_⟩
  rintro i m σ H ⟨rfl, hi, p⟩
  by_cases hlt : i < (tl x).length
  · refine .inr ⟨by show i < x.cps.size; omega, Pv (i + 1), fun σ' H' p' => ⟨(tl x).length - (i + 1), by omega, rfl, hlt, p'⟩, fun y H' z => ?_⟩
    obtain ⟨e, c, hc, ey⟩ := z
    subst e ey
    exact hs i c σ _ (by rw [← hc]; simp [tl]) p
  · have e : i = (tl x).length := by omega
    subst e
    exact .inl ⟨by show x.cps.size ≤ (tl x).length; omega, hd σ H p⟩
theorem len_join (y : Str) (m : Nat) : ∀ ws : List Str, (∀ w ∈ ws, w.length ≤ m) → (Txt.join y ws).length ≤ (m + y.length) * ws.length := by
  intro ws h
  rw [join_eq, len_tl, tl_join]
  have hy : y.length = (tl y).length := len_tl y
  induction ws with
  | nil => exact Nat.zero_le _
  | cons a r ih =>
    have ha : (tl a).length ≤ m := by
      rw [← len_tl]
      exact h a (List.mem_cons_self ..)
    have ihr := ih fun w hw => h w (List.mem_cons_of_mem _ hw)
    cases r with
    | nil =>
      show (tl a).length ≤ (m + y.length) * 1
      omega
    | cons b r =>
      show (tl a ++ (tl y ++ joinL (tl y) ((b :: r).map tl))).length ≤ _
      rw [List.length_append, List.length_append, List.length_cons (a := a), Nat.mul_succ]
      omega
theorem sum_len (m : Nat) : ∀ ws : List Str, (∀ w ∈ ws, w.length ≤ m) → (ws.map (·.length)).sum ≤ m * ws.length
  | [], _ => Nat.zero_le _
  | a :: r, h => by
    have ih := sum_len m r fun w hw => h w (List.mem_cons_of_mem _ hw)
    have ha := h a (List.mem_cons_self ..)
    rw [List.map_cons, List.sum_cons, List.length_cons, Nat.mul_succ]
    omega

/-! ### the source of draws -/
/-- a source of draws stands at D: its two lists at A and B, so many draws made -/
structure Drw (H : Hp) (D A B : Addr) (n : Int) : Prop where
  ex : ∃ (as bs : List Int) (c : Int), H D = some (.lst [.ref A, .int c, .ref B, .int n]) ∧ H A = some (.lst (as.map V.int)) ∧ H B = some (.lst (bs.map V.int))
  ab : A ≠ B
  pos : 0 ≤ n
/-- all but what a draw may change stands as it stood -/
def Kept (D A : Addr) (H H' : Hp) : Prop := ∀ b o, H b = some o → b ≠ D → b ≠ A → H' b = some o
theorem Kept.refl {D A : Addr} {H : Hp} : Kept D A H H := fun _ _ e _ _ => e
theorem Kept.trans {D A : Addr} {H H' H'' : Hp} (h : Kept D A H H') (k : Kept D A H' H'') : Kept D A H H'' := fun b o e n m => k b o (h b o e n m) n m
theorem Kept.of {D A : Addr} {H H' : Hp} (h : Same H H') : Kept D A H H' := fun b o e _ _ => h b o e
theorem Kept.upd {D A p : Addr} {o : HO} {H H' : Hp} (h : Kept D A H H') (hp : H p = none) : Kept D A H (L2.upd H' p o) := fun b x e n m => by
  rw [upd_ne (ne_of_none e hp)]
  exact h b x e n m
theorem Drw.same {H H' : Hp} {D A B : Addr} {n : Int} (h : Drw H D A B n) (k : Same H H') : Drw H' D A B n := by
  obtain ⟨⟨as, bs, c, h1, h2, h3⟩, h4, h5⟩ := h
  exact ⟨⟨as, bs, c, k _ _ h1, k _ _ h2, k _ _ h3⟩, h4, h5⟩
theorem Drw.tracked {H : Hp} {D A B : Addr} {n : Int} (h : Drw H D A B n) : (∃ o, H D = some o) ∧ (∃ o, H A = some o) ∧ ∃ o, H B = some o := by
  obtain ⟨⟨as, bs, c, h1, h2, h3⟩, h4, h5⟩ := h
  exact ⟨⟨_, h1⟩, ⟨_, h2⟩, ⟨_, h3⟩⟩
/-- a change at a third place -/
theorem Drw.upd {H : Hp} {D A B p : Addr} {o : HO} {n : Int} (h : Drw H D A B n) (hD : p ≠ D) (hA : p ≠ A) (hB : p ≠ B) : Drw (L2.upd H p o) D A B n := by
  obtain ⟨⟨as, bs, c, h1, h2, h3⟩, h4, h5⟩ := h
  exact ⟨⟨as, bs, c, by rw [upd_ne (Ne.symm hD)]; exact h1, by rw [upd_ne (Ne.symm hA)]; exact h2, by rw [upd_ne (Ne.symm hB)]; exact h3⟩, h4, h5⟩
theorem Drw.new {H : Hp} {D A B p : Addr} {o : HO} {n : Int} (h : Drw H D A B n) (hp : H p = none) : Drw (L2.upd H p o) D A B n := h.same (same_new hp)

theorem canLay_ints (ns : List Int) : PyData.canLayAll0 (ns.map PyData.int) = true := by
  induction ns with
  | nil => rfl
  | cons x r ih => simpa [PyData.canLayAll0, PyData.canLay0] using ih
theorem depth_ints (ns : List Int) : PyData.depthAll (ns.map PyData.int) ≤ 1 := by
  induction ns with
  | nil => simp [PyData.depthAll]
  | cons x r ih => simp [PyData.depthAll, PyData.depth]; omega
theorem shaped_ints (ns : List Int) : SeqAt.shaped (.list (ns.map PyData.int)) = true := by
  have h1 := canLay_ints ns
  have h2 := depth_ints ns
  simp [SeqAt.shaped, PyData.canLay0, PyData.depth, h1]
  omega
theorem dp_ints {K : PySem.W.Frag} {H : Hp} : ∀ (ns : List Int), DpAll K H (ns.map V.int) (ns.map PyData.int)
  | [] => .nil
  | x :: r => .cons (.int x) (dp_ints r)
theorem eqv_nil (ns : List Int) : PyData.eqv (.list (ns.map PyData.int)) (.list []) = ns.isEmpty := by
  cases ns <;> simp [PyData.eqv, PyData.eqvAll]

section
variable {P : Program} {w : World} {K : PySem.W.Frag} {mg : Str → Option Value} {base : Heap}
/-! ### _law_mixed -/
def sp_law_mixed : Sp := fun vs H Q _ => ∃ (s k : Int), vs = [.int s, .int k] ∧ 0 ≤ k ∧ k < 4194304 ∧ ∀ r, Q (.int r) H
theorem ok_law_mixed {f : Addr} {fd : FuncData} {dvs : List V} (F : Fn K "_law_mixed" s_law_mixed dvs f fd) : FnOk P w K mg base CX0 1 f fd ["seed", "k"] (sp_law_mixed) := by
  refine Fn.okN F sc_law_mixed (fun vs H Q E h => ?_) (fun cdv A outer s H vs Q E hr h => ?_)
  · obtain ⟨_, _, rfl, _⟩ := h
    rfl
  · obtain ⟨x, y, rfl, y0, y1, k⟩ := h
    refine ⟨_, (pss_cons (ps_set (i := 2) sc_law_mixed.nd rfl (.inl rfl) (pe_op op_mod (pe_op op_pow (pe_op op_add (pe_op op_add (pe_op op_mod (pv 0) pe_int) (pe_op op_mul pe_int (pv 1))) pe_int) pe_int) pe_int))
      (pss_one (ps_ret (pe_op op_mod (pe_op op_pow (pe_op op_add (pe_op op_add (pe_op op_mul (pv 2) pe_int) (pe_op op_mul (pe_op op_mul pe_int (pv 1)) (pv 1))) pe_int) pe_int) pe_int)))), ?_⟩
    have e1 : 0 ≤ x % 2147483647 := Int.emod_nonneg _ (by decide)
    have e2 : x % 2147483647 < 2147483647 := Int.emod_lt_of_pos _ (by decide)
    refine ⟨_, rfl, _, _, rfl, rfl, (by show (0 : Int) < 2147483647; decide), _, rfl, _, _, rfl, rfl, .inl ⟨by decide, by decide⟩, _, _, rfl, rfl, _, _, rfl, rfl, _, _, rfl, rfl, ⟨by decide, by decide, ?_⟩, _, _, rfl, rfl, (by show (0 : Int) < 2147483629; decide), ?_⟩
    · generalize x % 2147483647 = m at e1 e2
      omega
    have g1 : ∀ z : Int, 0 ≤ z % 2147483629 := fun z => Int.emod_nonneg _ (by decide)
    have g2 : ∀ z : Int, z % 2147483629 < 2147483629 := fun z => Int.emod_lt_of_pos _ (by decide)
    generalize hz : ((x % 2147483647 + 7919 * y + 104729) ^ (5 : Int).toNat) = z
    have z1 := g1 z
    have z2 := g2 z
    generalize z % 2147483629 = u at z1 z2
    have yy : 40503 * y * y ≤ 40503 * 4194304 * 4194304 := Int.mul_le_mul (by omega) (by omega) y0 (by decide)
    have yy0 : 0 ≤ 40503 * y * y := Int.mul_nonneg (by omega) y0
    refine ⟨_, rfl, _, _, rfl, rfl, .inl ⟨by omega, by omega⟩, _, rfl, _, _, rfl, rfl, .inl ⟨by decide, by decide⟩, _, rfl, _, _, rfl, rfl, .inl ⟨by omega, by omega⟩, _, _, rfl, rfl, _, _, rfl, rfl, _, _, rfl, rfl, ⟨by decide, by decide, ?_⟩, _, _, rfl, rfl, (by show (0 : Int) < 1000000007; decide), ?_⟩
    · generalize 40503 * y * y = q at yy yy0
      omega
    · exact k _
/-! ### _law_draws -/
def sp_law_draws (K : PySem.W.Frag) : Sp := fun vs H Q _ => ∃ (a : Addr) (ns : List Int), vs = [.ref a] ∧ SqL K H a (ns.map V.int) ∧ ns.length ≤ 63 ∧
  ∀ (H' : Hp) (D A B : Addr), Same H H' → Drw H' D A B 0 → H D = none → H A = none → Q (.ref D) H'
theorem ok_law_draws {f : Addr} {fd : FuncData} {dvs : List V} (F : Fn K "_law_draws" s_law_draws dvs f fd) : FnOk P w K mg base CX0 1 f fd ["script"] (sp_law_draws K) := by
  refine Fn.okN F sc_law_draws (fun vs H Q E h => ?_) (fun cdv A outer s H vs Q E hr h => ?_)
  · obtain ⟨_, _, rfl, _⟩ := h
    rfl
  · obtain ⟨a, ns, rfl, hS, hl, k⟩ := h
    refine ⟨_, (pss_one (ps_ret (pe_lst (pa_cons (pe_lc (own := [("item", 1)]) (g := gName 1) (by rfl) sc_law_draws.nd (pi_list (pv 0)) (blkOk_by (own := [("item", 1)]) (N := ["script", "item"]) (sc := defScope s_law_draws) (by decide +kernel)) (fun _ _ _ _ _ => (pg_name (i := 1) sc_law_draws.nd rfl (.inl rfl))) (fun _ _ _ _ _ => (pts_one (pt_cmpR op_ge (pv 1) (pe_op op_pow pe_int pe_int) (nomark _)))) (fun _ _ _ _ _ => (pv 1))) (pa_cons pe_int (pa_cons (pe_lc (own := [("item", 1)]) (g := gName 1) (by rfl) sc_law_draws.nd (pi_list (pv 0)) (blkOk_by (own := [("item", 1)]) (N := ["script", "item"]) (sc := defScope s_law_draws) (by decide +kernel)) (fun _ _ _ _ _ => (pg_name (i := 1) sc_law_draws.nd rfl (.inl rfl))) (fun _ _ _ _ _ => (pts_one (pt_cmpR op_lt (pv 1) (pe_op op_pow pe_int pe_int) (nomark _)))) (fun _ _ _ _ _ => (pv 1))) (pa_cons pe_int pa_nil))))))), ?_⟩
    refine ⟨_, rfl, a, rfl, ⟨_, hS⟩, fun A1 nA => lc_list (K := K) (a := a) (xs := ns.map V.int) (fun i H2 => ∃ acc : List Int, acc.length ≤ i ∧ H2 A1 = some (.lst (acc.map V.int)) ∧ Same H H2)
      ⟨[], Nat.le_refl _, upd_same, same_new nA⟩ (fun i H2 _ h2 => by obtain ⟨_, _, _, s2⟩ := h2; exact s2.seq hS) ?_ ?_⟩
    · rintro i x H2 hi ⟨acc, l2, e2, s2⟩
      obtain ⟨z, rfl⟩ := int_at hi
      have hil : i < (ns.map V.int).length := (List.getElem?_eq_some_iff.mp hi).1
      rw [List.length_map] at hil
      refine ⟨rfl, _, rfl, _, _, rfl, rfl, ⟨by decide, by decide, by decide⟩, _, _, rfl, rfl, _, rfl, ite2 (fun _ => ?_) (fun _ => ?_)⟩
      · refine ⟨_, rfl, _, e2, by rw [List.length_map]; exact small1000 (by omega), acc ++ [z], by rw [List.length_append]; exact Nat.succ_le_succ l2, ?_, fun b o e => ?_⟩
        · rw [upd_same, List.map_append]
          rfl
        · rw [upd_ne (ne_of_none e nA)]
          exact s2 b o e
      · exact ⟨acc, by omega, e2, s2⟩
    · rintro H2 ⟨as, l2, e2, s2⟩
      refine ⟨_, rfl, a, rfl, ⟨_, s2.seq hS⟩, fun B1 nB => lc_list (K := K) (a := a) (xs := ns.map V.int) (fun i H3 => ∃ acc : List Int, acc.length ≤ i ∧ H3 B1 = some (.lst (acc.map V.int)) ∧ Same H2 H3)
        ⟨[], Nat.le_refl _, upd_same, same_new nB⟩ (fun i H3 _ h3 => by obtain ⟨_, _, _, s3⟩ := h3; exact (s2.trans s3).seq hS) ?_ ?_⟩
      · rintro i x H3 hi ⟨acc, l3, e3, s3⟩
        obtain ⟨z, rfl⟩ := int_at hi
        have hil : i < (ns.map V.int).length := (List.getElem?_eq_some_iff.mp hi).1
        rw [List.length_map] at hil
        refine ⟨rfl, _, rfl, _, _, rfl, rfl, ⟨by decide, by decide, by decide⟩, _, _, rfl, rfl, _, rfl, ite2 (fun _ => ?_) (fun _ => ?_)⟩
        · refine ⟨_, rfl, _, e3, by rw [List.length_map]; exact small1000 (by omega), acc ++ [z], by rw [List.length_append]; exact Nat.succ_le_succ l3, ?_, fun b o e => ?_⟩
          · rw [upd_same, List.map_append]
            rfl
          · rw [upd_ne (ne_of_none e nB)]
            exact s3 b o e
        · exact ⟨acc, by omega, e3, s3⟩
      · rintro H3 ⟨bs, l3, e3, s3⟩
        have eA := s3 _ _ e2
        have nAB : A1 ≠ B1 := ne_of_none e2 nB
        refine ⟨by show 4 ≤ sizeLine; decide, fun D1 nD => ?_⟩
        have s4 := same_new (o := .lst [.ref A1, .int 0, .ref B1, .int 0]) nD
        refine k _ D1 A1 B1 (s2.trans (s3.trans s4)) ⟨⟨as, bs, 0, upd_same, s4 _ _ eA, s4 _ _ e3⟩, nAB, Int.le_refl _⟩ ((s2.trans s3).free nD) nA
/-! ### _law_take -/
def sp_law_take : Sp := fun vs H Q _ => ∃ (D A B : Addr) (n size : Int), vs = [.ref D, .int size] ∧ Drw H D A B n ∧ n < 1000000 ∧ 1 ≤ size ∧ size < 1073741824 ∧
  ∀ (r : Int) (H' : Hp), 0 ≤ r → r < size → Drw H' D A B (n + 1) → Kept D A H H' → Q (.int r) H'
/-- within a draw -/
structure Mids (H : Hp) (D A B : Addr) (m : Int) (H1 : Hp) : Prop where
  ex : ∃ (as bs : List Int) (c : Int), H1 D = some (.lst [.ref A, .int c, .ref B, .int m]) ∧ H1 A = some (.lst (as.map V.int)) ∧ H1 B = some (.lst (bs.map V.int))
  kp : Kept D A H H1
theorem ok_law_take {f : Addr} {fd : FuncData} {dvs : List V} (F : Fn K "_law_take" s_law_take dvs f fd) (O_law_mixed : Own P w K mg base "_law_mixed" 1 ["seed", "k"] [] (sp_law_mixed)) (m_len : mg "len" = none) : FnOk P w K mg base CX0 2 f fd ["draws", "size"] (sp_law_take) := by
  refine Fn.okN F sc_law_take (fun vs H Q E h => ?_) (fun cdv A outer s H vs Q E hr h => ?_)
  · obtain ⟨_, _, _, _, _, rfl, _⟩ := h
    rfl
  · obtain ⟨D, A1, B, n, size, rfl, ⟨⟨as, bs, c, hD, hA, hB⟩, nAB, n0⟩, hn, z0, z1, k⟩ := h
    refine ⟨_, (pss_cons (ps_asg (pe_op op_add (pe_ix ix_list (pv 0) pe_int (fun _ _ => rfl)) pe_int) (pg_sub (pv 0) pe_int set_list))
      (pss_cut (ps_if (PW.pt (pw_and (pt_cmpR op_eq (pe_ix ix_list (pv 0) pe_int (fun _ _ => rfl)) pe_int (nomark _)) (pw_and1 (pt_cmpR (op_neD hr.units) (pe_ix ix_list (pv 0) pe_int (fun _ _ => rfl)) (pe_lst pa_nil) (nomark _)))))
          (pss_one (ps_asg (pe_bm PySem.F.plainAttrs_list PySem.F.slot_list_pop PySem.F.type_list_pop mt_popAt (pe_ix ix_list (pv 0) pe_int (fun _ _ => rfl)) (pa_cons pe_int pa_nil)) (pg_sub (pv 0) pe_int set_list)))
          pss_nil)
      (pss_cons (ps_if (pt_cmpR op_gt (pe_ix ix_list (pv 0) pe_int (fun _ _ => rfl)) pe_int (nomark _))
          (pss_cons (ps_set (i := 2) sc_law_take.nd rfl (.inl rfl) (pe_op op_mod (pe_ix ix_list (pv 0) pe_int (fun _ _ => rfl)) (pv 1)))
            (pss_cons (ps_asg (pe_op op_fdivN (pe_ix ix_list (pv 0) pe_int (fun _ _ => rfl)) (pv 1)) (pg_sub (pv 0) pe_int set_list))
            (pss_one (ps_ret (pv 2)))))
          pss_nil)
      (pss_cons (ps_set (i := 3) sc_law_take.nd rfl (.inl rfl) pe_int)
      (pss_cut (ps_if (pt_cmpR (op_neD hr.units) (pe_ix ix_list (pv 0) pe_int (fun _ _ => rfl)) (pe_lst pa_nil) (nomark _))
          (pss_one (ps_set (i := 3) sc_law_take.nd rfl (.inl rfl) (pe_ix ix_list (pe_ix ix_list (pv 0) pe_int (fun _ _ => rfl)) (pe_op op_mod (pe_ix ix_list (pv 0) pe_int (fun _ _ => rfl)) (pe_callB call_len_seq (by rfl) m_len PySem.boot_len (pa_cons (pe_ix ix_list (pv 0) pe_int (fun _ _ => rfl)) pa_nil))) (fun _ _ => rfl))))
          pss_nil)
      (pss_cons (ps_set (i := 2) sc_law_take.nd rfl (.inl rfl) pe_int)
      (pss_cons (ps_set (i := 4) sc_law_take.nd rfl (.inl rfl) pe_int)
      (pss_cons (ps_while PassesOwn.never (pt_cmpR op_lt (pv 4) (pv 1) (nomark _))
          (pss_cons (ps_set (i := 2) sc_law_take.nd rfl (.inl rfl) (pe_op op_add (pe_op op_mul (pv 2) pe_int) (pe_own O_law_mixed (hr.mono (by decide)) (by rfl) (pa_cons (pv 3) (pa_cons (pe_op op_add (pe_ix ix_list (pv 0) pe_int (fun _ _ => rfl)) (pe_op op_mul pe_int (pe_op op_mod (pv 2) pe_int))) pa_nil)))))
            (pss_one (ps_set (i := 4) sc_law_take.nd rfl (.inl rfl) (pe_op op_mul (pv 4) pe_int)))))
      (pss_one (ps_ret (pe_op op_mod (pv 2) (pv 1)))))))))))), ?_⟩
    have nDA : D ≠ A1 := fun e => by
      rw [e, hA] at hD
      cases as <;> cases hD
    have nDB : D ≠ B := fun e => by
      rw [e, hB] at hD
      cases bs <;> cases hD
    -- one more draw
    refine ⟨.ref D, rfl, D, _, 3, .int n, rfl, rfl, SqL.of hD, atI_nat (j := 3) rfl, n, 1, rfl, rfl, .ref D, rfl, D, _, 3, 3, rfl, rfl, hD, rfl, ?_⟩
    have hD1 : (upd H D (.lst ([V.ref A1, .int c, .ref B, .int n].set 3 (.int (n + 1))))) D = some (.lst [V.ref A1, .int c, .ref B, .int (n + 1)]) := upd_same
    have hA1 : (upd H D (.lst ([V.ref A1, .int c, .ref B, .int n].set 3 (.int (n + 1))))) A1 = some (.lst (as.map V.int)) := by rw [upd_ne nDA.symm]; exact hA
    have hB1 : (upd H D (.lst ([V.ref A1, .int c, .ref B, .int n].set 3 (.int (n + 1))))) B = some (.lst (bs.map V.int)) := by rw [upd_ne nDB.symm]; exact hB
    have k1 : Kept D A1 H (upd H D (.lst ([V.ref A1, .int c, .ref B, .int n].set 3 (.int (n + 1))))) := fun b o e n1 _ => by rw [upd_ne n1]; exact e
    generalize upd H D (.lst ([V.ref A1, .int c, .ref B, .int n].set 3 (.int (n + 1)))) = H1 at hD1 hA1 hB1 k1
    clear hD hA hB
    -- the next of the great cells
    refine ⟨fun σ H2 => σ = [some (.ref D), some (.int size), none, none, none] ∧ Mids H D A1 B (n + 1) H2, ?_, ?_⟩
    · refine ⟨.ref D, rfl, D, _, 1, .int c, rfl, rfl, SqL.of hD1, atI_nat (j := 1) rfl, rfl, _, rfl, ?_⟩
      refine ite2 (fun _ => ?_) (fun _ => ?_)
      · refine ⟨.ref D, rfl, D, _, 0, .ref A1, rfl, rfl, SqL.of hD1, atI_nat (j := 0) rfl, by decide, fun N1 nN => ?_⟩
        have s2 := same_new (o := .lst []) nN
        refine ⟨_, _, .lst (SqL.of (s2 _ _ hA1)) (dp_ints as), .lst (SqL.of upd_same) .nil, shaped_ints as, shaped_ints [], _, rfl, ?_⟩
        rw [eqv_nil]
        cases as with
        | nil => exact iteF ⟨rfl, ⟨[], bs, c, s2 _ _ hD1, s2 _ _ hA1, s2 _ _ hB1⟩, fun b o e n1 n2 => s2 _ _ (k1 b o e n1 n2)⟩
        | cons a r =>
          refine iteT ?_
          refine ⟨.ref D, rfl, D, _, 0, .ref A1, rfl, rfl, SqL.of (s2 _ _ hD1), atI_nat (j := 0) rfl, .inl ⟨rfl, _, SqL.of (s2 _ _ hA1)⟩, A1, _, 0, 0, .int a, rfl, rfl, s2 _ _ hA1, by decide, by decide, ?_, rfl, ?_⟩
          · refine (ixN_seq (j := 0) ?_).1
            unfold ixN
            rw [if_pos (by decide), if_pos (by rw [List.length_map, List.length_cons]; omega)]
            rfl
          · refine ⟨.ref D, rfl, D, _, 1, 1, rfl, rfl, by rw [upd_ne nDA]; exact s2 _ _ hD1, rfl, rfl, ⟨r, bs, a, upd_same, ?_, ?_⟩, fun b o e n1 n2 => ?_⟩
            · rw [upd_ne nDA.symm, upd_same]
              rfl
            · rw [upd_ne nDB.symm, upd_ne nAB.symm]
              exact s2 _ _ hB1
            · rw [upd_ne n1, upd_ne n2]
              exact s2 _ _ (k1 b o e n1 n2)
      · exact ⟨rfl, ⟨as, bs, c, hD1, hA1, hB1⟩, k1⟩
    rintro σ2 H2 ⟨rfl, ⟨as2, bs2, c2, hD2, hA2, hB2⟩, k2⟩
    clear hD1 hA1 hB1 k1
    -- digits of a great cell
    refine ⟨.ref D, rfl, D, _, 1, .int c2, rfl, rfl, SqL.of hD2, atI_nat (j := 1) rfl, _, _, rfl, rfl, _, rfl, ite2 (fun _ => ?_) (fun _ => ?_)⟩
    · refine ⟨.ref D, rfl, D, _, 1, .int c2, rfl, rfl, SqL.of hD2, atI_nat (j := 1) rfl, _, rfl, _, _, rfl, rfl, (by show (0 : Int) < size; omega), ?_⟩
      refine ⟨.ref D, rfl, D, _, 1, .int c2, rfl, rfl, SqL.of hD2, atI_nat (j := 1) rfl, _, rfl, c2, size, rfl, rfl, ⟨by omega, by omega⟩, .ref D, rfl, D, _, 1, 1, rfl, rfl, hD2, rfl, ?_⟩
      refine ⟨_, rfl, ?_⟩
      refine k _ _ (Int.emod_nonneg _ (by omega)) (Int.emod_lt_of_pos _ (by omega)) ⟨⟨as2, bs2, c2.fdiv size, upd_same, ?_, ?_⟩, nAB, by omega⟩ (fun b o e n1 n2 => ?_)
      · rw [upd_ne nDA.symm]
        exact hA2
      · rw [upd_ne nDB.symm]
        exact hB2
      · rw [upd_ne n1]
        exact k2 b o e n1 n2
    -- a seed
    refine ⟨fun σ H3 => ∃ sd : Int, σ = [some (.ref D), some (.int size), none, some (.int sd), none] ∧ Mids H D A1 B (n + 1) H3, ?_, ?_⟩
    · refine ⟨.ref D, rfl, D, _, 2, .ref B, rfl, rfl, SqL.of hD2, atI_nat (j := 2) rfl, by decide, fun N1 nN => ?_⟩
      have s3 := same_new (o := .lst []) nN
      refine ⟨_, _, .lst (SqL.of (s3 _ _ hB2)) (dp_ints bs2), .lst (SqL.of upd_same) .nil, shaped_ints bs2, shaped_ints [], _, rfl, ?_⟩
      rw [eqv_nil]
      have M3 : Mids H D A1 B (n + 1) (upd H2 N1 (.lst [])) := ⟨⟨as2, bs2, c2, s3 _ _ hD2, s3 _ _ hA2, s3 _ _ hB2⟩, fun b o e n1 n2 => s3 _ _ (k2 b o e n1 n2)⟩
      cases bs2 with
      | nil => exact iteF ⟨17, rfl, M3⟩
      | cons b r =>
        refine iteT ?_
        have hp : (0 : Int) < (((b :: r).map V.int).length : Int) := by
          rw [List.length_map, List.length_cons]
          omega
        have m0 := Int.emod_nonneg (n + 1) (show (((b :: r).map V.int).length : Int) ≠ 0 by omega)
        have m1 := Int.emod_lt_of_pos (n + 1) hp
        obtain ⟨j, hj⟩ : ∃ j : Nat, (n + 1) % (((b :: r).map V.int).length : Int) = (j : Int) := ⟨_, (Int.toNat_of_nonneg m0).symm⟩
        have jl : j < (b :: r).length := by
          rw [hj, List.length_map] at m1
          omega
        refine ⟨.ref D, rfl, D, _, 2, .ref B, rfl, rfl, SqL.of (s3 _ _ hD2), atI_nat (j := 2) rfl, .ref D, rfl, D, _, 3, .int (n + 1), rfl, rfl, SqL.of (s3 _ _ hD2), atI_nat (j := 3) rfl, .ref D, rfl, D, _, 2, .ref B, rfl, rfl, SqL.of (s3 _ _ hD2), atI_nat (j := 2) rfl, B, _, rfl, .inl (SqL.of (s3 _ _ hB2)), _, _, rfl, rfl, hp, ?_⟩
        refine ⟨B, _, _, .int ((b :: r)[j]'jl), rfl, rfl, SqL.of (s3 _ _ hB2), ?_, ⟨_, rfl, M3⟩⟩
        rw [hj]
        refine atI_nat ?_
        rw [List.getElem?_map, List.getElem?_eq_getElem jl]
        rfl
    rintro σ3 H3 ⟨sd, rfl, M3⟩
    obtain ⟨⟨as3, bs3, c3, hD3, hA3, hB3⟩, k3⟩ := id M3
    -- the loop
    refine while_by (fun σ H4 => ∃ fd rc : Int, σ = [some (.ref D), some (.int size), some (.int fd), some (.int sd), some (.int rc)] ∧ H4 = H3 ∧ 1 ≤ rc) (fun σ _ => match σ with | [_, _, _, _, some (.int rc)] => (size - rc).toNat | _ => 0) ⟨0, 1, rfl, rfl, by decide⟩ ?_ ?_
    · rintro σ H4 ⟨fd, rc, rfl, rfl, r1⟩
      refine ⟨_, rfl, _, rfl, _, _, rfl, rfl, _, rfl, ite2 (fun lt => ?_) (fun _ => ?_)⟩
      · have lt' : rc < size := of_decide_eq_true lt
        have q0 : 0 ≤ fd % 97 := Int.emod_nonneg _ (by decide)
        have q1 : fd % 97 < 97 := Int.emod_lt_of_pos _ (by decide)
        refine ⟨_, rfl, _, _, rfl, rfl, .inr ⟨by decide, by decide⟩, _, rfl, .ref D, rfl, D, _, 3, .int (n + 1), rfl, rfl, SqL.of hD3, atI_nat (j := 3) rfl, _, rfl, _, _, rfl, rfl, (by show (0 : Int) < 97; decide), _, _, rfl, rfl, .inl ⟨by decide, by decide⟩, _, _, rfl, rfl, _, _, rfl, ?_, ?_, fun r => ?_⟩
        · generalize fd % 97 = q at q0 q1
          omega
        · generalize fd % 97 = q at q0 q1
          omega
        · refine ⟨_, _, rfl, rfl, _, rfl, _, _, rfl, rfl, .inr ⟨by decide, by decide⟩, ⟨_, _, rfl, rfl, by omega⟩, ?_⟩
          show (size - rc * 1000000007).toNat < (size - rc).toNat
          omega
      · refine ⟨_, rfl, _, rfl, _, _, rfl, rfl, (by show (0 : Int) < size; omega), ?_⟩
        exact k _ _ (Int.emod_nonneg _ (by omega)) (Int.emod_lt_of_pos _ (by omega)) ⟨⟨as3, bs3, c3, hD3, hA3, hB3⟩, nAB, by omega⟩ k3
    · rintro σ H4 Q1 Q2 i ⟨v, e1, w, e2, i1, j1, e3, e4, b, e5, q⟩
      exact ⟨v, e1, w, e2, i1, j1, e3, e4, b, e5, i _ _ q⟩

/-! ### _law_pick -/
/-- a list or a tuple that no draw touches -/
def SeqO (H : Hp) (p : Addr) (xs : List V) : Prop := H p = some (.lst xs) ∨ H p = some (.tup xs)
theorem SeqO.same {H H' : Hp} {p : Addr} {xs : List V} (h : SeqO H p xs) (k : Same H H') : SeqO H' p xs := h.elim (fun e => .inl (k _ _ e)) (fun e => .inr (k _ _ e))
theorem SeqO.kept {H H' : Hp} {p D A : Addr} {xs : List V} (h : SeqO H p xs) (k : Kept D A H H') (n1 : p ≠ D) (n2 : p ≠ A) : SeqO H' p xs := h.elim (fun e => .inl (k _ _ e n1 n2)) (fun e => .inr (k _ _ e n1 n2))
def sp_law_pick : Sp := fun vs H Q _ => ∃ (D A B p : Addr) (n : Int) (xs : List V), vs = [.ref D, .ref p] ∧ Drw H D A B n ∧ n < 1000000 ∧ SeqO H p xs ∧ p ≠ D ∧ p ≠ A ∧ 1 ≤ xs.length ∧ xs.length < 1000000 ∧
  ∀ (i : Nat) (v : V) (H' : Hp), xs[i]? = some v → Drw H' D A B (n + 1) → Kept D A H H' → Q v H'
theorem ok_law_pick {f : Addr} {fd : FuncData} {dvs : List V} (F : Fn K "_law_pick" s_law_pick dvs f fd) (O_law_take : Own P w K mg base "_law_take" 2 ["draws", "size"] [] (sp_law_take)) (m_len : mg "len" = none) : FnOk P w K mg base CX0 3 f fd ["draws", "things"] (sp_law_pick) := by
  refine Fn.okN F sc_law_pick (fun vs H Q E h => ?_) (fun cdv A outer s H vs Q E hr h => ?_)
  · obtain ⟨_, _, _, _, _, _, rfl, _⟩ := h
    rfl
  · obtain ⟨D, A1, B, p, n, xs, rfl, dr, hn, hp, pD, pA, l0, l1, k⟩ := h
    refine ⟨_, (pss_one (ps_ret (pe_ix ix_seq (pv 1) (pe_own O_law_take (hr.mono (by decide)) (by rfl) (pa_cons (pv 0) (pa_cons (pe_callB call_len_seq (by rfl) m_len PySem.boot_len (pa_cons (pv 1) pa_nil)) pa_nil))) (fun _ _ => rfl)))), ?_⟩
    refine ⟨.ref p, rfl, .ref D, rfl, .ref p, rfl, p, xs, rfl, hp.elim (fun e => .inl (SqL.of e)) (fun e => .inr (SqT.of e)), D, A1, B, n, (xs.length : Int), rfl, dr, hn, by omega, by omega, fun r H' r0 r1 dr' kp => ?_⟩
    obtain ⟨j, rfl⟩ : ∃ j : Nat, r = (j : Int) := ⟨_, (Int.toNat_of_nonneg r0).symm⟩
    have jl : j < xs.length := by omega
    have g : xs[j]? = some xs[j] := List.getElem?_eq_getElem jl
    rcases hp.kept kp pD pA with e | e
    · exact .inl ⟨p, xs, (j : Int), xs[j], rfl, rfl, SqL.of e, atI_nat g, k j _ _ g dr' kp⟩
    · exact .inr (.inl ⟨p, xs, (j : Int), xs[j], rfl, rfl, SqT.of e, atI_nat g, k j _ _ g dr' kp⟩)
end

/-! ### the mathematics of the stages, over lists of signs -/
/-- nothing but blanks -/
def isBlank (l : List Nat) : Bool := l.all fun c => c == 32 || c == 9
def MK : List Nat := [60, 66, 76, 65, 78, 75, 76, 73, 78, 69, 62]
def isMark (l : List Nat) : Bool := pre MK l && isBlank (l.drop 11)
def marksOf (w : List Nat) : List Nat := joinL [10] ((spl [10] 0 [] w).map fun l => if isMark l then [] else l)
def blanksOf (g : List Nat) : List Nat := joinL [10] ((spl [10] 0 [] g).map fun l => if isBlank l then [] else l)
def wordsOf (t : List Nat) : List Nat := joinL [32] ((spl [32] 0 [] (t.map fun c => if c == 9 || c == 10 then 32 else c)).filter fun w => !w.isEmpty)
theorem emptyEq (l : List Nat) : l.isEmpty = (l.length == 0) := by cases l <;> rfl

theorem joinL_len (S : List Nat) : ∀ {ps : List (List Nat)}, ps ≠ [] → (joinL S ps).length + S.length = (ps.map (·.length)).sum + ps.length * S.length
  | [], h => absurd rfl h
  | [p], _ => by
    show p.length + S.length = p.length + 0 + (0 + 1) * S.length
    omega
  | p :: q :: r, _ => by
    have ih := joinL_len S (ps := q :: r) (by simp)
    show (p ++ (S ++ joinL S (q :: r))).length + S.length = p.length + ((q :: r).map (·.length)).sum + ((q :: r).length + 1) * S.length
    rw [List.length_append, List.length_append, Nat.succ_mul]
    omega
theorem spl_ne (S : List Nat) : ∀ (k : Nat) (acc l : List Nat), spl S k acc l ≠ []
  | k, acc, [] => by rw [spl_nil]; simp
  | 0, acc, c :: r => by
    cases h : pre S (c :: r) with
    | true => rw [spl_hit h]; simp
    | false => rw [spl_miss h]; exact spl_ne S 0 _ r
  | k + 1, acc, _ :: r => spl_ne S k acc r
theorem small_kind {y : List Nat} (h : y.all (· < 256) = true) (x : Str) : ¬ Builtin.Str.strKind x < Builtin.Str.strKind ⟨y.toArray⟩ := kind_ok (by simpa using h)
theorem splitOf (x : Str) {y : List Nat} (hy : y ≠ []) (h : y.all (· < 256) = true) : (Txt.split x ⟨y.toArray⟩).map tl = spl y 0 [] (tl x) := split_spl x ⟨y.toArray⟩ hy (small_kind h x)
theorem joinL_spl (l : List Nat) {y : List Nat} (hy : y ≠ []) (h : y.all (· < 256) = true) : joinL y (spl y 0 [] l) = l := by
  have e := StrLaws.join_split (⟨l.toArray⟩ : Str) ⟨y.toArray⟩
  have e2 := congrArg tl e
  rw [tl_join, splitOf _ hy h] at e2
  exact e2
/-- of the parts: how long they are together, and how many -/
theorem spl_sizes (l : List Nat) {y : List Nat} (hy : y ≠ []) (h : y.all (· < 256) = true) : ((spl y 0 [] l).map (·.length)).sum ≤ l.length ∧ (spl y 0 [] l).length ≤ l.length + 1 := by
  have e := joinL_len y (spl_ne y 0 [] l)
  rw [joinL_spl l hy h] at e
  have hp : 1 ≤ y.length := List.length_pos_iff.mpr hy
  have hn : 1 ≤ (spl y 0 [] l).length := List.length_pos_iff.mpr (spl_ne y 0 [] l)
  generalize (spl y 0 [] l).length = n at e hn
  generalize ((spl y 0 [] l).map (·.length)).sum = s at e
  obtain ⟨m, rfl⟩ : ∃ m, n = m + 1 := ⟨n - 1, by omega⟩
  rw [Nat.succ_mul] at e
  have hm : m ≤ m * y.length := Nat.le_mul_of_pos_right m hp
  omega
theorem sum_map_le {α : Type} (f g : α → Nat) : ∀ (l : List α), (∀ x ∈ l, f x ≤ g x) → (l.map f).sum ≤ (l.map g).sum
  | [], _ => Nat.le_refl _
  | x :: r, h => by
    have h1 := h x (List.mem_cons_self ..)
    have h2 := sum_map_le f g r fun y hy => h y (List.mem_cons_of_mem _ hy)
    rw [List.map_cons, List.map_cons, List.sum_cons, List.sum_cons]
    omega
theorem map_lines_len (f : List Nat → List Nat) (hf : ∀ l, (f l).length ≤ l.length) (l : List Nat) {y : List Nat} (hy : y ≠ []) (h : y.all (· < 256) = true) : (joinL y ((spl y 0 [] l).map f)).length ≤ l.length := by
  have e := joinL_len y (spl_ne y 0 [] l)
  rw [joinL_spl l hy h] at e
  have e2 := joinL_len y (ps := (spl y 0 [] l).map f) (by simpa using spl_ne y 0 [] l)
  rw [List.length_map, List.map_map] at e2
  have e3 := sum_map_le (fun x => (f x).length) (fun x => x.length) (spl y 0 [] l) fun x _ => hf x
  have e4 : ((spl y 0 [] l).map ((fun x => x.length) ∘ f)).sum = ((spl y 0 [] l).map fun x => (f x).length).sum := rfl
  omega
theorem marks_len (w : List Nat) : (marksOf w).length ≤ w.length := map_lines_len _ (fun l => by split <;> simp) w (by simp) (by decide)
theorem blanks_len (w : List Nat) : (blanksOf w).length ≤ w.length := map_lines_len _ (fun l => by split <;> simp) w (by simp) (by decide)
theorem filter_sum (p : List Nat → Bool) : ∀ ps : List (List Nat), ((ps.filter p).map (·.length)).sum ≤ (ps.map (·.length)).sum
  | [] => Nat.le_refl _
  | x :: r => by
    have ih := filter_sum p r
    rw [List.filter_cons]
    split
    · rw [List.map_cons, List.map_cons, List.sum_cons, List.sum_cons]
      omega
    · rw [List.map_cons, List.sum_cons]
      omega
theorem words_len (t : List Nat) : (wordsOf t).length ≤ t.length := by
  unfold wordsOf
  generalize hu : (t.map fun c => if c == 9 || c == 10 then 32 else c) = u
  have lu : u.length = t.length := by rw [← hu, List.length_map]
  have e := joinL_len [32] (spl_ne [32] 0 [] u)
  rw [joinL_spl u (by simp) (by decide)] at e
  have l1 : ([32] : List Nat).length = 1 := rfl
  generalize hq : (spl [32] 0 [] u).filter (fun w => !w.isEmpty) = q
  have hs : (q.map (·.length)).sum ≤ ((spl [32] 0 [] u).map (·.length)).sum := by rw [← hq]; exact filter_sum _ _
  have hl : q.length ≤ (spl [32] 0 [] u).length := by rw [← hq]; exact List.length_filter_le _ _
  cases q with
  | nil => exact Nat.zero_le _
  | cons a r =>
    have e2 := joinL_len [32] (ps := a :: r) (by simp)
    rw [l1] at e e2
    omega

/-! ### stripping leaves nothing just of a blank text -/
theorem strip_blank (x : Str) (goes : Nat → Bool) : ((Txt.stripBy goes true true x).length = 0) ↔ (tl x).all goes = true := by
  rw [stripBy_eq]
  obtain ⟨h1, h2, h3⟩ := lo_facts goes x
  obtain ⟨g1, g2, g3, g4⟩ := hi_facts goes x (stripLo goes true x) h1
  have hl : (Builtin.Str.strSub x (stripLo goes true x) (stripHi goes true x (stripLo goes true x))).length = stripHi goes true x (stripLo goes true x) - stripLo goes true x := by
    rw [len_tl, tl_strSub, List.length_take, List.length_drop, ← len_tl]
    omega
  rw [hl]
  have get : ∀ k, k < x.length → x.cps.getD k 0 ∈ tl x := fun k hk => by
    have hk' : k < x.cps.size := hk
    simp [tl, Array.getD, hk']
  constructor
  · intro h
    rw [List.all_eq_true]
    intro c hc
    obtain ⟨k, hk, e⟩ := List.getElem_of_mem hc
    have hkx : k < x.length := by rw [len_tl]; exact hk
    have e2 : x.cps.getD k 0 = c := by
      have hk' : k < x.cps.size := hkx
      rw [← e]
      simp [tl, Array.getD, hk']
    rw [← e2]
    by_cases hk2 : k < stripLo goes true x
    · exact h2 k hk2
    · exact g3 k (by omega) hkx
  · intro h
    rw [List.all_eq_true] at h
    rcases h3 with e | e
    · omega
    · by_cases hlt : stripLo goes true x < x.length
      · rw [h _ (get _ hlt)] at e
        cases e
      · omega
theorem blank_strip (x : Str) : ((Txt.stripChars x ⟨#[32, 9]⟩).length = 0) ↔ isBlank (tl x) = true := by
  unfold Txt.stripChars
  rw [strip_blank]
  unfold isBlank
  have e : (fun c => (#[32, 9] : Array Nat).contains c) = fun c => (c == 32 || c == 9) := by
    funext c
    rw [Bool.eq_iff_iff, Array.contains_iff_mem]
    simp
  show (tl x).all (fun c => (#[32, 9] : Array Nat).contains c) = true ↔ _
  rw [e]
theorem starts_pre (x : Str) {y : List Nat} (hy : y ≠ []) : Txt.startswith x ⟨y.toArray⟩ = pre y (tl x) := by
  unfold Txt.startswith
  rw [Nat.zero_add]
  have h := at_iff (x := x) (y := ⟨y.toArray⟩) hy 0
  rw [List.drop_zero] at h
  unfold StrLaws.At at h
  rw [Nat.zero_add] at h
  rw [Bool.eq_iff_iff, Bool.and_eq_true, decide_eq_true_eq]
  exact h

/-! ### slices of texts -/
theorem cutS_from (z : Str) (k : Nat) : tl (cutS z (some (k : Int)) none) = (tl z).drop k := by
  show (z.cps.toList.drop (HT.sIx z.length 0 (some (k : Int)))).take (HT.sIx z.length z.length none - HT.sIx z.length 0 (some (k : Int))) = z.cps.toList.drop k
  have hl : z.cps.toList.length = z.length := (len_tl z).symm
  rw [HT.sIx_nat, HT.sIx_none]
  by_cases h : k ≤ z.length
  · rw [Nat.min_eq_left h]
    exact List.take_of_length_le (by rw [List.length_drop]; omega)
  · rw [Nat.min_eq_right (by omega), List.drop_of_length_le (by omega), List.drop_of_length_le (by omega)]
    simp
theorem cutS_to (z : Str) (k : Nat) : tl (cutS z none (some (k : Int))) = (tl z).take k := by
  show (z.cps.toList.drop (HT.sIx z.length 0 none)).take (HT.sIx z.length z.length (some (k : Int)) - HT.sIx z.length 0 none) = z.cps.toList.take k
  have hl : z.cps.toList.length = z.length := (len_tl z).symm
  rw [HT.sIx_nat, HT.sIx_none, List.drop_zero, Nat.sub_zero]
  by_cases h : k ≤ z.length
  · rw [Nat.min_eq_left h]
  · rw [Nat.min_eq_right (by omega), List.take_of_length_le (by omega), List.take_of_length_le (by omega)]
theorem cutS_mid (z : Str) (a b : Nat) (h : a ≤ z.length) : tl (cutS z (some (a : Int)) (some (b : Int))) = ((tl z).drop a).take (b - a) := by
  show (z.cps.toList.drop (HT.sIx z.length 0 (some (a : Int)))).take (HT.sIx z.length z.length (some (b : Int)) - HT.sIx z.length 0 (some (a : Int))) = (z.cps.toList.drop a).take (b - a)
  have hl : z.cps.toList.length = z.length := (len_tl z).symm
  rw [HT.sIx_nat, HT.sIx_nat, Nat.min_eq_left h]
  by_cases hb : b ≤ z.length
  · rw [Nat.min_eq_left hb]
  · rw [Nat.min_eq_right (by omega), List.take_of_length_le (by rw [List.length_drop]; omega), List.take_of_length_le (by rw [List.length_drop]; omega)]
theorem nl_eq : ("\n" : Str) = ⟨[10].toArray⟩ := ext_tl (by decide +kernel)
theorem sp_eq : (" " : Str) = ⟨[32].toArray⟩ := ext_tl (by decide +kernel)
theorem tab_eq : ("\t" : Str) = ⟨[9].toArray⟩ := ext_tl (by decide +kernel)
theorem str_at {ys : List Str} {i : Nat} {x : V} (h : (ys.map V.str)[i]? = some x) : ∃ z, x = V.str z ∧ ys[i]? = some z := by
  rw [List.getElem?_map] at h
  cases e : ys[i]? with
  | none =>
    rw [e] at h
    cases h
  | some z =>
    rw [e] at h
    exact ⟨z, (Option.some.inj h).symm, rfl⟩

/-! ### comprehensions over the signs of a text -/
theorem lc_str {x : Str} {g : TG} {tt : TT} {te : TE} {vs : List Nat} {σ : L2.St} {H1 : Hp} {D : Addr} {Qd : Hp → Prop} (Pv : Nat → Hp → Prop) (h0 : Pv 0 (upd H1 D (.lst [])))
    (hs : ∀ i c H, (tl x)[i]? = some c → Pv i H → g (.str ⟨#[c]⟩) (wipe σ vs) H fun σ2 H2 => wipe σ2 vs = wipe σ vs ∧ tt σ2 H2 fun b H3 =>
      if b = true then te σ2 H3 fun y H4 => ∃ acc, H4 D = some (.lst acc) ∧ acc.length < sizeLine ∧ Pv (i + 1) (upd H4 D (.lst (acc ++ [y]))) else Pv (i + 1) H3) (hd : ∀ H, Pv (tl x).length H → Qd H) :
    ∃ W : Nat → Nat → Hp → Prop, (∃ m, W 0 m (upd H1 D (.lst []))) ∧ ∀ i m H, W i m H →
      ((Its x).stop i H ∧ Qd H) ∨ ((Its x).go i H ∧ ∃ Nx : Hp → Prop, (∀ H', Nx H' → ∃ m', m' < m ∧ W (i + 1) m' H') ∧ ∀ y H', (Its x).yld i H y H' → g y (wipe σ vs) H' fun σ2 H2 => wipe σ2 vs = wipe σ vs ∧ tt σ2 H2 fun b H3 =>
        if b = true then te σ2 H3 fun y H4 => ∃ acc, H4 D = some (.lst acc) ∧ acc.length < sizeLine ∧ Nx (upd H4 D (.lst (acc ++ [y]))) else Nx H3) := by
  have sz : x.cps.size = (tl x).length := by simp [tl]
  refine ⟨fun i m H => m = (tl x).length - i ∧ i ≤ (tl x).length ∧ Pv i H, ⟨(tl x).length, by simp, Nat.zero_le _, h0⟩, ?_⟩
  rintro i m H ⟨rfl, hi, p⟩
  by_cases hlt : i < (tl x).length
  · refine .inr ⟨by show i < x.cps.size; omega, Pv (i + 1), fun H' p' => ⟨(tl x).length - (i + 1), by omega, rfl, hlt, p'⟩, fun y H' z => ?_⟩
    obtain ⟨e, c, hc, ey⟩ := z
    subst e ey
    exact hs i c _ (by rw [← hc]; simp [tl]) p
  · have e : i = (tl x).length := by omega
    subst e
    exact .inl ⟨by show x.cps.size ≤ (tl x).length; omega, hd H p⟩

/-! ### texts levelled: the mathematics -/
theorem exp_line {n : Nat} : ∀ (l r : List Nat) (col : Nat), (∀ c ∈ l, c ≠ 10 ∧ c ≠ 13) → Mun.expT n col (l ++ 10 :: r) = Mun.expT n col l ++ 10 :: Mun.expT n 0 r
  | [], r, col, _ => by
    rw [List.nil_append, expc (by decide), if_pos (.inl rfl)]
    rfl
  | c :: l, r, col, h => by
    have h1 := h c (List.mem_cons_self ..)
    have ih := fun k => exp_line (n := n) l r k fun d m => h d (List.mem_cons_of_mem _ m)
    rw [List.cons_append]
    by_cases e : c = 9
    · rw [e, exp9, exp9, ih, List.append_assoc]
    · rw [expc e, expc e, if_neg (fun z => z.elim h1.1 h1.2), ih]
      rfl
theorem exp_join {n : Nat} : ∀ ls : List (List Nat), (∀ l ∈ ls, ∀ c ∈ l, c ≠ 10 ∧ c ≠ 13) → Mun.expT n 0 (joinL [10] ls) = joinL [10] (ls.map (Mun.expT n 0))
  | [], _ => rfl
  | [l], _ => rfl
  | l :: m :: r, h => by
    have ih := exp_join (n := n) (m :: r) fun d z => h d (List.mem_cons_of_mem _ z)
    show Mun.expT n 0 (l ++ ([10] ++ joinL [10] (m :: r))) = Mun.expT n 0 l ++ ([10] ++ joinL [10] ((m :: r).map (Mun.expT n 0)))
    rw [← ih]
    exact exp_line l _ 0 (h l (List.mem_cons_self ..))
/-- a line widened, sign by sign -/
def stW (f : List Nat) (c : Nat) : List Nat := if c = 9 then f ++ List.replicate (8 - f.length % 8) 32 else f ++ [c]
theorem stW_all : ∀ (l f : List Nat), (∀ c ∈ l, c ≠ 10 ∧ c ≠ 13) → l.foldl stW f = f ++ Mun.expT 8 f.length l
  | [], f, _ => by
    show f = f ++ []
    rw [List.append_nil]
  | c :: l, f, h => by
    have h1 := h c (List.mem_cons_self ..)
    rw [List.foldl_cons, stW_all l _ fun d m => h d (List.mem_cons_of_mem _ m)]
    unfold stW
    by_cases e : c = 9
    · rw [if_pos e, e, exp9, List.append_assoc, List.length_append, List.length_replicate]
    · rw [if_neg e, expc e, if_neg (fun z => z.elim h1.1 h1.2), List.append_assoc, List.length_append]
      rfl
def lead (l : List Nat) : Nat := (l.takeWhile fun c => c == 32).length
theorem lead_le (l : List Nat) : lead l ≤ l.length := (List.takeWhile_sublist _).length_le
theorem lead_drop : ∀ (l : List Nat) (k : Nat), k ≤ lead l → lead (l.drop k) = lead l - k
  | [], k, h => by
    have e : k = 0 := Nat.le_zero.mp h
    subst e
    rfl
  | c :: l, 0, h => rfl
  | c :: l, k + 1, h => by
    unfold lead at h ⊢
    rw [List.takeWhile_cons] at h ⊢
    cases e : (c == 32) with
    | false =>
      rw [e] at h
      exact absurd h (Nat.not_succ_le_zero _)
    | true =>
      rw [e] at h
      have h' : k ≤ lead l := Nat.le_of_succ_le_succ h
      have ih := lead_drop l k h'
      rw [List.drop_succ_cons]
      show lead (l.drop k) = lead l + 1 - (k + 1)
      rw [ih]
      omega
theorem drop_nil_of {l : List Nat} {k : Nat} (h : k = 0) : l.drop k = l := by rw [h, List.drop_zero]
def spaces (l : List Nat) : Bool := l.all (· == 32)
/-- the least of some numbers, 0 of none -/
def leastN : List Nat → Nat
  | [] => 0
  | a :: r => r.foldl Nat.min a
theorem foldl_min : ∀ (r : List Nat) (a : Nat), r.foldl Nat.min a ≤ a ∧ (∀ y ∈ r, r.foldl Nat.min a ≤ y) ∧ (r.foldl Nat.min a = a ∨ r.foldl Nat.min a ∈ r)
  | [], a => ⟨Nat.le_refl _, fun _ h => (by cases h), .inl rfl⟩
  | b :: r, a => by
    have ih := foldl_min r (Nat.min a b)
    have m1 : Nat.min a b ≤ a := Nat.min_le_left ..
    have m2 : Nat.min a b ≤ b := Nat.min_le_right ..
    rw [List.foldl_cons]
    refine ⟨by omega, fun y h => ?_, ?_⟩
    · rcases List.mem_cons.mp h with rfl | h
      · omega
      · exact ih.2.1 y h
    · rcases ih.2.2 with e | e
      · rw [e]
        rcases Nat.le_total a b with z | z
        · exact .inl (Nat.min_eq_left z)
        · exact .inr (by rw [show Nat.min a b = b from Nat.min_eq_right z]; exact List.mem_cons_self ..)
      · exact .inr (List.mem_cons_of_mem _ e)
theorem leastN_spec {ns : List Nat} (h : ns ≠ []) : leastN ns ∈ ns ∧ ∀ y ∈ ns, leastN ns ≤ y := by
  cases ns with
  | nil => exact absurd rfl h
  | cons a r =>
    have g := foldl_min r a
    refine ⟨?_, fun y hy => ?_⟩
    · rcases g.2.2 with e | e
      · show r.foldl Nat.min a ∈ _
        rw [e]
        exact List.mem_cons_self ..
      · exact List.mem_cons_of_mem _ e
    · rcases List.mem_cons.mp hy with rfl | hy
      · exact g.1
      · exact g.2.1 y hy
theorem leastN_eq {ns : List Nat} {m : Nat} (h : m ∈ ns) (hl : ∀ y ∈ ns, m ≤ y) : m = leastN ns := by
  have g := leastN_spec (ns := ns) (by rintro rfl; cases h)
  have a := hl _ g.1
  have b := g.2 _ h
  omega
theorem leastN_int {ns : List Nat} {m : Int} (h : m ∈ ns.map (fun n : Nat => (n : Int))) (hl : ∀ y ∈ ns.map (fun n : Nat => (n : Int)), m ≤ y) : m = (leastN ns : Nat) := by
  obtain ⟨k, hk, rfl⟩ := List.mem_map.mp h
  rw [leastN_eq hk fun y hy => Int.ofNat_le.mp (hl _ (List.mem_map.mpr ⟨y, hy, rfl⟩))]
/-- the least indent of lines that are not blank -/
def leads (ws : List (List Nat)) : List Nat := (ws.filter fun l => !spaces l).map lead
def levW (ws : List (List Nat)) : List (List Nat) := ws.map (·.drop (leastN (leads ws)))
theorem spaces_drop {l : List Nat} {k : Nat} (hk : k ≤ lead l) : spaces (l.drop k) = spaces l := by
  cases e : spaces l with
  | true =>
    unfold spaces at e ⊢
    rw [List.all_eq_true] at e ⊢
    exact fun c hc => e c (List.mem_of_mem_drop hc)
  | false =>
    cases e2 : spaces (l.drop k) with
    | false => rfl
    | true =>
      have h1 : (l.take k).all (· == 32) = true := by
        have hp : l.take k <+: l.takeWhile (fun c => c == 32) := by
          refine List.prefix_of_prefix_length_le (List.take_prefix k l) (List.takeWhile_prefix _) ?_
          exact Nat.le_trans (List.length_take_le ..) hk
        rw [List.all_eq_true]
        intro c hc
        exact List.all_eq_true.mp (List.all_takeWhile (p := fun c => c == 32) (l := l)) c (hp.subset hc)
      have h2 : spaces l = true := by
        unfold spaces at e2 ⊢
        rw [← List.take_append_drop k l, List.all_append, h1, e2]
        rfl
      rw [h2] at e
      cases e
theorem levW_again (ws : List (List Nat)) : levW (levW ws) = levW ws := by
  have key : leastN (leads (levW ws)) = 0 := by
    unfold levW
    generalize hm : leastN (leads ws) = m
    have hle : ∀ l ∈ ws, spaces l = false → m ≤ lead l := fun l hl hs => by
      have h : lead l ∈ leads ws := List.mem_map.mpr ⟨l, List.mem_filter.mpr ⟨hl, by rw [hs]; rfl⟩, rfl⟩
      rw [← hm]
      exact (leastN_spec (ns := leads ws) (fun z => by rw [z] at h; cases h)).2 _ h
    have hsp : ∀ l ∈ ws, spaces (l.drop m) = spaces l := fun l hl => by
      cases hs : spaces l with
      | false => rw [spaces_drop (hle l hl hs), hs]
      | true =>
        unfold spaces at hs ⊢
        rw [List.all_eq_true] at hs ⊢
        exact fun c hc => hs c (List.mem_of_mem_drop hc)
    by_cases hn : leads ws = []
    · have e2 : leads (ws.map (·.drop m)) = [] := by
        unfold leads at hn ⊢
        rw [List.map_eq_nil_iff, List.filter_eq_nil_iff] at hn ⊢
        intro l hl
        obtain ⟨l', hl', rfl⟩ := List.mem_map.mp hl
        show ¬ (!spaces (l'.drop m)) = true
        rw [hsp l' hl']
        exact hn l' hl'
      rw [e2]
      rfl
    · have g := leastN_spec hn
      rw [hm] at g
      obtain ⟨l, hl, e⟩ := List.mem_map.mp g.1
      obtain ⟨hl1, hl2⟩ := List.mem_filter.mp hl
      have hl3 : spaces l = false := by
        cases z : spaces l with
        | false => rfl
        | true =>
          rw [z] at hl2
          cases hl2
      have h0 : (0 : Nat) ∈ leads (ws.map (·.drop m)) := by
        refine List.mem_map.mpr ⟨l.drop m, List.mem_filter.mpr ⟨List.mem_map.mpr ⟨l, hl1, rfl⟩, ?_⟩, ?_⟩
        · rw [hsp l hl1, hl3]
          rfl
        · rw [lead_drop l m (by omega)]
          omega
      exact (leastN_eq h0 fun y _ => Nat.zero_le y).symm
  show (levW ws).map (·.drop (leastN (leads (levW ws)))) = levW ws
  rw [key]
  exact (List.map_congr_left fun l _ => List.drop_zero).trans (List.map_id _)
theorem lead_at : ∀ (l : List Nat), spaces l = false → ∃ c, l[lead l]? = some c ∧ (c == 32) = false ∧ ∀ (m d : Nat), m < lead l → l[m]? = some d → (d == 32) = true
  | [], h => by cases h
  | c :: l, h => by
    unfold lead
    rw [List.takeWhile_cons]
    cases e : (c == 32) with
    | false => exact ⟨c, rfl, e, fun m d hm _ => absurd hm (Nat.not_lt_zero _)⟩
    | true =>
      have h' : spaces l = false := by
        unfold spaces at h ⊢
        rw [List.all_cons, e] at h
        exact h
      obtain ⟨d, h1, h2, h3⟩ := lead_at l h'
      refine ⟨d, h1, h2, fun m g hm hg => ?_⟩
      cases m with
      | zero =>
        cases hg
        exact e
      | succ m => exact h3 m g (Nat.lt_of_succ_lt_succ hm) hg
theorem lead_by (goes : Nat → Bool) : ∀ (l : List Nat) (n : Nat), n ≤ l.length → (∀ k c, k < n → l[k]? = some c → goes c = true) → (n = l.length ∨ ∃ c, l[n]? = some c ∧ goes c = false) → (l.takeWhile goes).length = n
  | [], n, h, _, _ => (Nat.le_zero.mp h).symm
  | c :: l, 0, _, _, h3 => by
    rcases h3 with h3 | ⟨d, h3, h4⟩
    · cases h3
    · cases h3
      rw [List.takeWhile_cons, h4]
      rfl
  | c :: l, n + 1, h1, h2, h3 => by
    rw [List.takeWhile_cons, h2 0 c (Nat.zero_lt_succ _) rfl]
    show (l.takeWhile goes).length + 1 = n + 1
    rw [lead_by goes l n (Nat.le_of_succ_le_succ h1) (fun k d hk hd => h2 (k + 1) d (Nat.succ_lt_succ hk) hd) (h3.elim (fun z => .inl (Nat.succ.inj z)) .inr)]
theorem lstrip_len (x : Str) (goes : Nat → Bool) : (Txt.stripBy goes true false x).length = x.length - ((tl x).takeWhile goes).length := by
  rw [stripBy_eq]
  obtain ⟨h1, h2, h3⟩ := lo_facts goes x
  have hh : stripHi goes false x (stripLo goes true x) = x.length := rfl
  rw [hh]
  have hl : (Builtin.Str.strSub x (stripLo goes true x) x.length).length = x.length - stripLo goes true x := by
    rw [len_tl, tl_strSub, List.length_take, List.length_drop, ← len_tl]
    omega
  rw [hl]
  have get : ∀ k c, (tl x)[k]? = some c → x.cps.getD k 0 = c := fun k c h => by
    have hk := (List.getElem?_eq_some_iff.mp h).1
    have hk' : k < x.cps.size := by simpa [tl] using hk
    have e2 := (List.getElem?_eq_some_iff.mp h).2
    rw [← e2]
    simp [tl, Array.getD, hk']
  rw [lead_by goes (tl x) (stripLo goes true x) (by rw [← len_tl]; exact h1) (fun k c hk hc => by rw [← get k c hc]; exact h2 k hk) ?_]
  rcases h3 with e | e
  · exact .inl (by rw [e, len_tl])
  · by_cases hlt : stripLo goes true x < (tl x).length
    · refine .inr ⟨(tl x)[stripLo goes true x], List.getElem?_eq_getElem hlt, ?_⟩
      rw [← get _ _ (List.getElem?_eq_getElem hlt)]
      exact e
    · rw [len_tl] at h1
      exact .inl (by omega)
theorem contains_one (c : Nat) : (#[c] : Array Nat).contains = fun d => d == c := by
  funext d
  rw [Bool.eq_iff_iff, Array.contains_iff_mem]
  simp
theorem indent_len (x : Str) : (x.length : Int) - ((Txt.lstripChars x ⟨#[32]⟩).length : Int) = (lead (tl x) : Nat) := by
  have h : (Txt.lstripChars x ⟨#[32]⟩).length = x.length - lead (tl x) := by
    unfold Txt.lstripChars
    rw [contains_one]
    exact lstrip_len x _
  have h2 := lead_le (tl x)
  rw [← len_tl] at h2
  omega
theorem spaces_strip (x : Str) : ((Txt.stripChars x ⟨#[32]⟩).length = 0) ↔ spaces (tl x) = true := by
  unfold Txt.stripChars
  rw [strip_blank, contains_one]
  exact Iff.rfl

/-! ### min(a list of ints, default=an int) -/
section
variable {prog : Program} {w : World} {A : Around} {R : Result → Shared → Prop} {I S : Addr} {fp wr : List Addr} {arr : Array Value} {St : Nat → Heap → Prop} {val : Nat → Int} {kw : List (Str × Value)}
theorem minD_run (W : Walks prog w A.in1 I fp wr arr.size (fun i v => arr[i]? = some v) St) (cmp : CmpOf prog w A.in1 .Lt (fun i v => arr[i]? = some v) fun i j => decide (val i < val j)) (nS : S ∉ fp) :
    ∀ (k j b : Nat) (u : Shared) (x : Value) (c : Nat), arr.size = j + 1 + k → b ≤ j → (∀ i, i ≤ j → val b ≤ val i) → St (j + 1) u.heap → arr[b]? = some x →
      u.heap.get? S = some { cls := .type "list", dict := none, data := .seq #[x, x] c, slots := #[] } →
      (∀ b x h' tk, arr[b]? = some x → (∀ i, i < arr.size → val b ≤ val i) → (∀ a o, a ∉ wr → a ≠ S → u.heap.get? a = some o → h'.get? a = some o) → R (.ok (.ret x)) { u with heap := h', toks := tk }) →
      codeAny (model prog w) A (.builtin "min.loop" ⟨[.ref I, .none, .ref S], kw⟩) R u := by
  have nW : S ∉ wr := fun z => nS (W.sub _ z)
  have idn : (toString "min" ++ toString ".loop" : String) = "min.loop" := by decide +kernel
  intro k
  induction k with
  | zero =>
    intro j b u x c ek hb hv pos hx gS done
    refine codeAny_builtin F.entry_min_loop ?_; rw [Around.under_plainId F.plain_min_loop _]
    show wpAny _ A.in1 (seqItems? (.ref S) >>= _) _ _ u
    refine wpAny_bind (wpAny_seqItems gS rfl ?_)
    show wpAny _ A.in1 (tryCatch (pyNext (.ref I)) _ >>= _) _ _ u
    refine wpAny_bind (wpAny_tryCatch (W.done u _ _ (by rw [ek]; exact pos) fun h1 tk1 old1 => ?_))
    show wpAny _ A.in1 (updateSeq S (fun _ => #[]) >>= _) _ _ _; refine wpAny_bind ?_
    refine wpAny_updateSeq (old1 S _ nW gS) rfl (wpAny_bind (wpAny_letGo (wpAny_pure ?_)))
    exact done b x _ tk1 hx (fun i hi => hv i (by omega)) fun a o ha hne e => (Heap.get?_update_other _ _ (Ne.symm hne)).trans (old1 a o ha e)
  | succ k next =>
    intro j b u x c ek hb hv pos hx gS done
    refine codeAny_builtin F.entry_min_loop ?_; rw [Around.under_plainId F.plain_min_loop _]
    show wpAny _ A.in1 (seqItems? (.ref S) >>= _) _ _ u
    refine wpAny_bind (wpAny_seqItems gS rfl ?_)
    show wpAny _ A.in1 (tryCatch (pyNext (.ref I)) _ >>= _) _ _ u
    refine wpAny_bind (wpAny_tryCatch (W.item (j + 1) u _ _ (by omega) pos fun y h1 tk1 hy pos1 old1 => ?_))
    have gS1 := old1 S _ nW gS
    show wpAny _ A.in1 (tryCatch (holding [y, y] (richCompare .Lt y x >>= _)) _ >>= _) _ _ _
    refine wpAny_bind (wpAny_tryCatch (wpAny_holding (wpAny_bind (cmp (j + 1) b y x _ _ _ hy hx ?_))))
    refine wpAny_bind (wpAny_holding (wpAny_truthy_bool ?_)); refine wpAny_bind (wpAny_letGo (wpAny_pure ?_))
    by_cases lt : val (j + 1) < val b
    · rw [if_pos (show (fun i j => decide (val i < val j)) (j + 1) b = true from decide_eq_true lt)]
      refine wpAny_bind ?_; refine wpAny_updateSeq gS1 rfl (wpAny_bind (wpAny_letGo ?_)); rw [idn]
      refine wpAny_pure ⟨plainId_quiet F.plain_min_loop _, next (j + 1) (j + 1) _ y _ (by omega) (Nat.le_refl _) (fun i hi => ?_) (W.frame _ _ _ pos1 fun a ha o e => ?_) hy (Heap.get?_update_self _ gS1 rfl) fun b' x' h2 tk2 e1 e2 old2 => ?_⟩
      · by_cases hi2 : i = j + 1
        · rw [hi2]
          exact Int.le_refl _
        · have := hv i (by omega)
          omega
      · exact (Heap.get?_update_other _ _ (fun z : S = a => nS (z ▸ ha))).trans e
      · exact done b' x' h2 tk2 e1 e2 fun a o ha hne e => old2 a o ha hne ((Heap.get?_update_other _ _ (Ne.symm hne)).trans (old1 a o ha e))
    · rw [if_neg (show ¬ (fun i j => decide (val i < val j)) (j + 1) b = true from fun z => lt (of_decide_eq_true z))]
      refine wpAny_bind (wpAny_letGo ?_); rw [idn]
      refine wpAny_pure ⟨plainId_quiet F.plain_min_loop _, next (j + 1) b _ x c (by omega) (by omega) (fun i hi => ?_) pos1 hx gS1 fun b' x' h2 tk2 e1 e2 old2 => ?_⟩
      · by_cases hi2 : i = j + 1
        · rw [hi2]
          omega
        · exact hv i (by omega)
      · exact done b' x' h2 tk2 e1 e2 fun a o ha hne e => old2 a o ha hne (old1 a o ha e)
theorem minD_from (W : Walks prog w A.in1 I fp wr arr.size (fun i v => arr[i]? = some v) St) (cmp : CmpOf prog w A.in1 .Lt (fun i v => arr[i]? = some v) fun i j => decide (val i < val j)) (nS : S ∉ fp) {d : Value} {z : Str}
    {u : Shared} {c : Nat} (pos : St 0 u.heap) (gS : u.heap.get? S = some { cls := .type "list", dict := none, data := .seq #[] c, slots := #[] })
    (dflt : ∀ h' tk, arr.size = 0 → (∀ a o, a ∉ wr → a ≠ S → u.heap.get? a = some o → h'.get? a = some o) → R (.ok (.ret d)) { u with heap := h', toks := tk })
    (done : ∀ b x h' tk, arr[b]? = some x → (∀ i, i < arr.size → val b ≤ val i) → (∀ a o, a ∉ wr → a ≠ S → u.heap.get? a = some o → h'.get? a = some o) → R (.ok (.ret x)) { u with heap := h', toks := tk }) :
    codeAny (model prog w) A (.builtin "min.loop" ⟨[.ref I, .none, .ref S], [(z, d)]⟩) R u := by
  have nW : S ∉ wr := fun z => nS (W.sub _ z)
  have idn : (toString "min" ++ toString ".loop" : String) = "min.loop" := by decide +kernel
  refine codeAny_builtin F.entry_min_loop ?_; rw [Around.under_plainId F.plain_min_loop _]
  show wpAny _ A.in1 (seqItems? (.ref S) >>= _) _ _ u
  refine wpAny_bind (wpAny_seqItems gS rfl ?_)
  show wpAny _ A.in1 (tryCatch (pyNext (.ref I)) _ >>= _) _ _ u
  by_cases h0 : arr.size = 0
  · refine wpAny_bind (wpAny_tryCatch (W.done u _ _ (by rw [h0]; exact pos) fun h1 tk1 old1 => ?_))
    refine wpAny_bind (wpAny_rule (wpAny_pure ?_))
    exact dflt h1 tk1 h0 fun a o ha _ e => old1 a o ha e
  · refine wpAny_bind (wpAny_tryCatch (W.item 0 u _ _ (by omega) pos fun y h1 tk1 hy pos1 old1 => ?_))
    have gS1 := old1 S _ nW gS
    show wpAny _ A.in1 (updateSeq S (fun _ => #[y, y]) >>= _) _ _ _; refine wpAny_bind ?_
    refine wpAny_updateSeq gS1 rfl ?_; rw [idn]
    refine wpAny_pure ⟨plainId_quiet F.plain_min_loop _, minD_run W cmp nS (arr.size - 1) 0 0 _ y _ (by omega) (Nat.le_refl _) (fun i hi => by rw [Nat.le_zero.mp hi]; exact Int.le_refl _) (W.frame _ _ _ pos1 fun a ha o e => ?_) hy (Heap.get?_update_self _ gS1 rfl) fun b' x' h2 tk2 e1 e2 old2 => ?_⟩
    · exact (Heap.get?_update_other _ _ (fun z : S = a => nS (z ▸ ha))).trans e
    · exact done b' x' h2 tk2 e1 e2 fun a o ha hne e => old2 a o ha hne ((Heap.get?_update_other _ _ (Ne.symm hne)).trans (old1 a o ha e))
end
theorem minD_args (a v : Value) : argsOk "min" ⟨[a], [(Str.ofString "default", v)]⟩ := by unfold argsOk; kernel_rfl
theorem minD_raw {prog : Program} {w : World} {A : Around} {E : Value → Shared → Prop} {s : Shared} {l : Addr} {its : List Value} {ns : List Int} {d : Value} {Q : Value → Shared → Prop} (hh : A.handled = none) (hl : s.heap.IsList l its.toArray) (hi : IntsAre its ns)
    (dflt : ∀ h' tk, ns = [] → (∀ a o, s.heap.get? a = some o → h'.get? a = some o) → Q d { s with heap := h', toks := tk })
    (done : ∀ h' tk m t, m ∈ ns → (∀ y ∈ ns, m ≤ y) → (∀ a o, s.heap.get? a = some o → h'.get? a = some o) → Q (.int m t) { s with heap := h', toks := tk }) :
    wpAny (model prog w) A (call (.builtin "min") [.ref l] [(Str.ofString "default", d)]) Q E s := by
  obtain ⟨xs, e⟩ := hi.allInts.items
  have hn : numsOf (intItems xs).toList = ns := by rw [← e]; exact hi.numsOf
  rw [nums_intItems] at hn
  subst hn
  rw [e] at hl
  have idn : (toString "min" ++ toString ".loop" : String) = "min.loop" := by decide +kernel
  have ld : ∀ i, i < (intItems xs).size → ∃ p, xs.toList[i]? = some p ∧ numAt xs i = p.1 := fun i hlt => by
    have hlt' : i < xs.size := by simpa [intItems] using hlt
    refine ⟨xs[i], by simp [hlt'], by simp [numAt, hlt']⟩
  refine kmk_tree F.kind_min F.plain_min F.entry_min (minD_args _ _) ?_
  show wpAny _ A.in1 (Builtin.Builtins.bindParams "min" ["key", "default"] 0 ⟨[], [(Str.ofString "default", d)]⟩ >>= _) _ _ s
  refine wpAny_bind (wpAny_of_eq (show Builtin.Builtins.bindParams "min" ["key", "default"] 0 ⟨[], [(Str.ofString "default", d)]⟩ = pure [none, some d] from rfl) ?_)
  refine wpAny_bind (wpAny_pure (wpAny_bind (iter_intList hl fun s2 e2 pos hfp hlI => ?_)))
  subst e2
  refine wpAny_bind (wpAny_newObj_type ?_); rw [idn]
  have nS : (s.heap.push { cls := .type "list_iterator", data := .fields #[.ref l, .int 0 0] }).objs.size ∉ [s.heap.objs.size, l] := fun z => Nat.lt_irrefl _ (hfp _ z)
  have W := Walks.list (prog := prog) (w := w) (A := A.in1) hh _ l hlI (intItems xs)
  have old : ∀ h' : Heap, (∀ a o, a ∉ [s.heap.objs.size] → a ≠ (s.heap.push { cls := .type "list_iterator", data := .fields #[.ref l, .int 0 0] }).objs.size → ((s.heap.push { cls := .type "list_iterator", data := .fields #[.ref l, .int 0 0] }).push { cls := .type "list", data := .seq #[] }).get? a = some o → h'.get? a = some o) → ∀ a o, s.heap.get? a = some o → h'.get? a = some o := fun h' k a o g => by
    have lt := Heap.lt_size g
    refine k a o (fun z => ?_) (fun z => ?_) (Heap.get?_push_of_some _ (Heap.get?_push_of_some _ g))
    · rw [List.mem_singleton.mp z] at lt
      exact Nat.lt_irrefl _ lt
    · rw [z, Heap.size_push] at lt
      exact Nat.lt_irrefl _ (Nat.lt_of_succ_lt lt)
  refine wpAny_pure ⟨plainId_quiet F.plain_min_loop _, minD_from W (CmpOf.ints_lt (numAt xs) (fun _ _ => intItems_at)) nS (W.frame _ _ _ pos fun a _ o g => Heap.get?_push_of_some _ g) (Heap.get?_push_size _ rfl) (fun h' tk h0 k => ?_) fun b x h' tk hx hle k => ?_⟩
  · refine dflt h' tk ?_ (old h' k)
    have hz : xs.toList.length = 0 := by simpa [intItems] using h0
    rw [List.length_eq_zero_iff.mp hz]
    rfl
  · obtain ⟨t, rfl⟩ := intItems_at hx
    obtain ⟨p, hp, ep⟩ := ld b (Array.getElem?_eq_some_iff.mp hx).1
    refine done h' tk _ t ?_ (fun y hy => ?_) (old h' k)
    · rw [ep]
      exact List.mem_map.mpr ⟨p, List.mem_of_getElem? hp, rfl⟩
    · obtain ⟨q, hq, rfl⟩ := List.mem_map.mp hy
      obtain ⟨i, hi', rfl⟩ := List.getElem_of_mem hq
      have hlt : i < (intItems xs).size := by simpa [intItems] using hi'
      obtain ⟨q, hq2, eq⟩ := ld i hlt
      rw [List.getElem?_eq_getElem hi'] at hq2
      cases hq2
      rw [← eq]
      exact hle i hlt
def rMinD (K : PySem.W.Frag) : List V → List V → Hp → VK → Prop := fun vs zs H Q => ∃ (a : Addr) (ns : List Int) (d : Int), vs = [V.ref a] ∧ zs = [.int d] ∧ SqL K H a (ns.map V.int) ∧ ∀ m, (ns = [] ∧ m = d) ∨ (m ∈ ns ∧ ∀ y, y ∈ ns → m ≤ y) → Q (.int m) H
theorem cr_minD {X : Cx} (hc : X.calm = true) : CallRK X (.builtin "min") ["default"] (rMinD X.K) := by
  intro pins s σ H xs zs us ws Q I r1 r2 h
  obtain ⟨a, ns, d, rfl, rfl, sq, q⟩ := h
  obtain ⟨its, rv, hl, _⟩ := I.list sq
  rw [Vals.ref1 r1]
  cases r2 with
  | cons r rr =>
    cases rr
    obtain ⟨t, rfl⟩ := r
    exact minD_raw (I.ok.hd hc) hl.isList rv.ints (fun h' tk e k => ⟨.int _, H, I.kept k, ⟨_, rfl⟩, q d (.inl ⟨e, rfl⟩)⟩) fun h' tk m t' h1 h2 k => ⟨.int _, H, I.kept k, ⟨_, rfl⟩, q m (.inr ⟨h1, h2⟩)⟩

/-! ### (*xs, y) = a list -/
section
variable {prog : Program} {w : World} {A : Around} {E : Value → Shared → Prop} {s : Shared}
theorem star_front {l : Addr} {items : Array Value} {Q : List Value → Shared → Prop} (hl : s.heap.IsList l items) (hh : A.handled = none) (h1 : 1 ≤ items.size) (hz : items.size ≤ 16384)
    (h : ∀ (h' : Heap) (tk : Nat), (∀ b o, s.heap.get? b = some o → h'.get? b = some o) →
      Q (.ref h'.objs.size :: items.toList.drop (items.size - 1)) { s with heap := h'.push { cls := .type "list", data := .seq (items.toList.take (items.size - 1)).toArray }, toks := tk }) :
    wpAny (model prog w) A (unpackItems (.ref l) 2 (some 0)) Q E s := by
  have hl2 := hl
  obtain ⟨ob, hob, _⟩ := hl2
  have sz := Heap.lt_size hob
  have ne : l ≠ s.heap.objs.size := Nat.ne_of_lt sz
  unfold unpackItems notIterableAtAll
  refine wpAny_bind (wpAny_bind (wpAny_specialOf hl.typeIs slot_list_iter.lookup (wpAny_pure ?_)))
  rw [if_neg (by decide)]
  refine wpAny_bind (wpAny_holding (wpAny_pyIter_list hl (wpAny_bind (wpAny_holding (wpAny_pure ?_)))))
  rw [if_neg (Nat.not_lt_zero _)]
  refine wpAny_bind (wpAny_holding (PySem.W.kun_collect (T := "list_iterator") (items := items) (.inr (.inr (.inl rfl))) (Walks.list (A := A.in1) hh s.heap.objs.size l ne items) (fun _ _ z => z.1.typeIs) (k := 0) (Nat.zero_le _) ⟨⟨_, Heap.get?_push_size _ rfl, rfl, rfl⟩, hl.push _⟩ ?_ ?_ (fun h2 tk kp => ?_) ?_))
  · rw [Heap.size_push]
    exact Nat.lt_succ_self _
  · rw [Heap.size_push]
    exact Nat.lt_succ_of_lt sz
  · have ln : items.toList.length = items.size := Array.length_toList
    rw [List.drop_zero]
    show wpAny _ _ (if items.toList.length < 1 then _ else _) _ _ _
    rw [if_neg (by omega)]
    refine wpAny_bind (wpAny_newList (wpAny_pure ?_) ?_)
    · show Q ([] ++ [Value.ref h2.objs.size] ++ items.toList.drop (items.toList.length - 1)) _
      rw [ln]
      exact h h2 tk fun b o e => kp b o (Nat.ne_of_lt (Heap.lt_size e)) (Heap.get?_push_of_some _ e)
    · rw [List.length_take, sizeLine_eq]
      omega
  · rw [sizeLine_eq]
    omega
end
theorem vals_last : ∀ {xs : List V} {y : V} {its : List Value}, Vals (xs ++ [y]) its → ∃ us z, its = us ++ [z] ∧ Vals xs us ∧ RelV y z
  | [], y, its, h => by
    cases h with
    | cons r rr =>
      cases rr
      exact ⟨[], _, rfl, .nil, r⟩
  | x :: xs, y, its, h => by
    cases h with
    | cons r rr =>
      obtain ⟨us, z, e, a, b⟩ := vals_last rr
      exact ⟨_ :: us, z, by rw [e]; rfl, .cons r a, b⟩
def gStar (K : PySem.W.Frag) (t : TGs) : TG := fun v σ H Q => ∃ (l : Addr) (xs : List V) (y : V), v = .ref l ∧ SqL K H l (xs ++ [y]) ∧ xs.length ≤ 16000 ∧ ∀ D, H D = none → t [.ref D, y] σ (upd H D (.lst xs)) Q
theorem pg_star {X : Cx} {e f : Expr} {k : Nat} {p pos : Pos} {t : TGs} (hc : X.calm = true) (h : PGs X [e, f] t)
    (hn : (assignEach [.Starred e p, f] X.env).length = 2 := by rfl) (hst : (assignEach [.Starred e p, f] X.env).findIdx? (·.1) = some 0 := by rfl)
    (hm : (assignEach [.Starred e p, f] X.env).map (·.2) = (assignEach [e, f] X.env).map (·.2) := by rfl) : PG X (.Tuple [.Starred e p, f] k pos) (gStar X.K t) := by
  refine ⟨fun pins s σ H v u Q I r hw => ?_⟩
  obtain ⟨l, xs, y, e1, hq, hz, hw⟩ := hw
  subst e1
  cases r
  obtain ⟨its, rv, ht, hz2⟩ := I.list hq
  obtain ⟨us, z, rfl, r1, r2⟩ := vals_last rv
  have lu : xs.length = us.length := r1.length
  have sz : (us ++ [z]).toArray.size = us.length + 1 := by simp
  rw [assign_Tuple]
  refine wpAny_bind (wpAny_standAt ?_)
  unfold unpack
  rw [hn, hst]
  refine wpAny_bind (wpAny_holding (star_front ht.isList (I.ok.hd hc) (by omega) (by omega) fun h' tk kp => ?_))
  rw [hm, sz]
  have e1 : (us ++ [z]).toArray.toList.take (us.length + 1 - 1) = us := by simp
  have e2 : (us ++ [z]).toArray.toList.drop (us.length + 1 - 1) = [z] := by simp
  rw [e1, e2]
  have I1 : Inv X pins σ H { s with heap := h', toks := tk } := I.kept (t' := tk) kp
  have hf : H h'.objs.size = none := I1.hok.fresh (Nat.le_refl _)
  have I2 : Inv X pins σ (upd H h'.objs.size (.lst xs)) { s with heap := h'.push { cls := .type "list", data := .seq us.toArray }, toks := tk } := I1.laid (t' := tk) (fun b u q => Heap.get?_push_of_some _ q) (Nat.le_refl _) ⟨by rw [sizeLine_eq]; omega, us, 0, r1, Heap.get?_push_size _ rfl⟩
  exact h.run pins _ σ _ [.ref h'.objs.size, y] [.ref h'.objs.size, z] Q I2 (.cons rfl (.cons r2 .nil)) (hw _ hf)

/-! ### own classes: made by name, their fields within comprehensions -/
theorem vals_app : ∀ {vs : List V} {us : List Value} {zs : List V} {ws : List Value}, Vals vs us → Vals zs ws → Vals (vs ++ zs) (us ++ ws)
  | _, _, _, _, .nil, r => r
  | _, _, _, _, .cons a b, r => .cons a (vals_app b r)
structure OwnC (P : Program) (w : World) (K : PySem.W.Frag) (mg : Str → Option Value) (base : Heap) (x : Str) (C : Addr) (k : Nat) (ps ks : List Str) (n : Nat) (sp : Sp) : Prop where
  ex : ∃ f fd g, Mk K C f ∧ FnOk P w K mg base CX0 k f fd ps sp ∧ KBn K fd ps (n + 1) ks g (fun vs zs => vs ++ zs) ∧ mg x = some (.ref C)
theorem pe_ownC {X : Cx} {x : Str} {C : Addr} {k n : Nat} {ps ks : List Str} {sp : Sp} {e : Expr} {es : List Expr} {kws : List Keyword} {t tk : TA} {p pos : Pos} (O : OwnC X.prog X.w X.K X.mg X.base x C k ps ks n sp) (hr : Room (k + 1) X.A) (hg : Gl X x) (ha : PA X (e :: es) t) (hkw : PK X kws tk)
    (hall : (backToKw pos (keywordEach kws X.env)).all (·.1.isSome) = true := by rfl) (hks : (backToKw pos (keywordEach kws X.env)).filterMap (·.1) = ks := by rfl) (hdb : (x == ("__debug__" : Str)) = false := by decide) (he : starEach (e :: es) X.env = (false, eval e X.env) :: starEach es X.env := by rfl)
    (hpl : ((backTo pos (starEach (e :: es) X.env)).any (·.1) || (backToKw pos (keywordEach kws X.env)).any (·.1.isNone)) = false := by rfl) : PE X (.Call (.Name x p) (e :: es) kws pos) (tMakeK C n ks.length sp (fun vs zs => vs ++ zs) E0 t tk) := by
  obtain ⟨f, fd, g, M, F, hb, hm⟩ := O.ex
  exact pe_makeK M F hr hg hm hb pass0 ha hkw hall hks hdb he hpl
theorem FunD_okN {P : Program} {w : World} {K : PySem.W.Frag} {mg : Str → Option Value} {base : Heap} {x qual : Str} {params : Arguments} {body : List Stmt} {scope : Scope} {dvs : List V} {kws : List (Str × V)} {f : Addr} {fd : FuncData} {N ps : List Str} {k : Nat} {sp : Sp}
    (F : FunD K x qual params body scope dvs kws f fd) (S : FnScope N ps scope) (len : ∀ vs H Q E, sp vs H Q E → vs.length = ps.length)
    (hbody : ∀ (cdv : Value) (A : Around) (outer : List Env) (s : Shared) (H : Hp) (vs : List V) (Q : VK) (E : XK), Room k (A.deeper (envOfC qual scope s.heap.objs.size f cdv)) → sp vs H Q E →
      ∃ t, PSs (cxOf CX0 P w K mg base N qual scope f cdv A outer s H E).nox body t ∧ t { nx := fun _ H' => Q .non H', rt := Q } (start N vs) H) : FnOk P w K mg base CX0 (k + 1) f fd ps sp :=
  FunD.ok F S len fun cdv A outer s H vs Q E hr hsp => by
    obtain ⟨t, h, q⟩ := hbody cdv A outer s H vs Q E hr hsp
    exact ⟨t, h.nox, q⟩
theorem pe_fldK {X : Cx} {K' : PySem.W.Frag} (hK : X.K = K') {e : Expr} {ta : TE} {f : Str} {pos : Pos} (he : PE X e ta) (hb : attributeBase e f X.env (eval e X.env) = eval e X.env) : PE X (.Attribute e f pos) (tFld K' ta f) := by
  subst hK
  exact pe_fld he hb
theorem call_isiK {X : Cx} {K' : PySem.W.Frag} (hK : X.K = K') : CallR X (.builtin "isinstance") (rIsi K') := by
  subst hK
  exact call_isi
def tReplN (y z : Str) (to : TE) : TE := fun σ H Q => to σ H fun x H1 => ∃ a : Str, x = .str a ∧ (Builtin.Str.occurrences a y 0 a.length (a.length + 1)).isEmpty = true ∧ Q (.str a) H1
theorem replN {prog : Program} {w : World} {A : Around} {E : Value → Shared → Prop} {s : Shared} {x y z : Str} {t u v : Tok} {Q : Value → Shared → Prop} (h : (Builtin.Str.occurrences x y 0 x.length (x.length + 1)).isEmpty = true) (hq : ∀ t' k, Q (.str x t') { s with toks := k }) :
    wpAny (model prog w) A (call (.builtin "str.replace") [.str x t, .str y u, .str z v]) Q E s := by
  refine wpAny_call (codeAny_call_builtin PySem.F.slot_str_replace.plain PySem.F.entry_str_replace (PySem.F.slot_str_replace.check _ _ _ _ _ _ _ _ (typeIs_str _ _ _) (PySem.F.args_str_replace_3 _ _ _) ?_))
  show wpAny _ _ (if ((Builtin.Str.occurrences x y 0 x.length (x.length + 1)).isEmpty || (y.length == 0 && z.length == 0)) = true then (do rule "str.replace.nothing"; PySem.ret (.str x t)) else _) _ _ _
  rw [h, Bool.true_or, if_pos rfl]
  exact wpAny_bind (wpAny_rule (wpAny_pure (hq t s.toks)))
theorem pe_replN {X : Cx} {o : Expr} {to : TE} {y z : Str} {j0 j1 : Nat} {c0 c1 apos pos : Pos} (ho : PE X o to) (hst : starEach [.Constant (.str y) j0 c0, .Constant (.str z) j1 c1] X.env = [(false, eval (.Constant (.str y) j0 c0) X.env), (false, eval (.Constant (.str z) j1 c1) X.env)] := by rfl)
    (hbase : attributeBase o "replace" X.env (eval o X.env) = eval o X.env := by rfl) (hline : (apos.endLine == pos.line) = true := by rfl) : PE X (.Call (.Attribute o "replace" apos) [.Constant (.str y) j0 c0, .Constant (.str z) j1 c1] [] pos) (tReplN y z to) := by
  refine ⟨fun pins s σ H Q I h => ?_⟩
  refine PySem.Call_method2 hbase hst hline (thn (ho.run pins s σ H _ I h) fun v s1 ⟨x, H1, I1, r1, a, ex, hb, q⟩ => ?_)
  subst ex
  obtain ⟨tx, rfl⟩ := r1
  refine ⟨"str", _, PySem.F.plainAttrs_str, PySem.F.slot_str_replace, PySem.F.type_str_replace, typeIs_str _ _ _, (fun _ e => nomatch e), Calls.callWith_builtin rfl (Calls.evalArgs_plain (Calls.spliced_cons (Calls.Constant_str (Calls.spliced_cons (Calls.Constant_str (Calls.spliced_nil ?_))))))⟩
  exact replN hb fun t' k => ⟨.str a, H1, I1.tok k, ⟨t', rfl⟩, q⟩
structure Txt_Example (K : PySem.W.Frag) (mg : Str → Option Value) (C : Addr) : Prop where
  cl : Cls K C
  mgC : mg "Example" = some (.ref C)
  ha : PySem.W.findIn K (.ref C) "__class__" = some (some (.builtin "object.__class__"))
  hn : PySem.W.specialIn K (.builtin "object.__class__") "__get__" = some (some (.builtin "getset_descriptor.__get__"))
  ht : PySem.W.takesIn K (.builtin "object.__class__") = some true
  hm : PySem.W.mroIn K C (.type "object") = some true
  ko : PySem.W.kitOne K (.ref C) (.ref C) = some true
  n_source : NoAttr K C "source"
  n_want : NoAttr K C "want"
  n_error : NoAttr K C "error"
  n_line : NoAttr K C "line"
  n_indent : NoAttr K C "indent"
  n_options : NoAttr K C "options"
  n_bare : NoAttr K C "bare"
structure Txt_Comment (K : PySem.W.Frag) (mg : Str → Option Value) (C : Addr) : Prop where
  cl : Cls K C
  mgC : mg "Comment" = some (.ref C)
  ha : PySem.W.findIn K (.ref C) "__class__" = some (some (.builtin "object.__class__"))
  hn : PySem.W.specialIn K (.builtin "object.__class__") "__get__" = some (some (.builtin "getset_descriptor.__get__"))
  ht : PySem.W.takesIn K (.builtin "object.__class__") = some true
  hm : PySem.W.mroIn K C (.type "object") = some true
  ko : PySem.W.kitOne K (.ref C) (.ref C) = some true
  n_source : NoAttr K C "source"
  n_want : NoAttr K C "want"
  n_line : NoAttr K C "line"
  n_indent : NoAttr K C "indent"

/-! ### own classes made with keywords left out -/
def gPut (j : Nat) (l vs zs : List V) : List V := vs ++ (l.take j ++ (zs ++ l.drop j))
structure OwnG (P : Program) (w : World) (K : PySem.W.Frag) (mg : Str → Option Value) (base : Heap) (x : Str) (C : Addr) (k : Nat) (ps ks : List Str) (n : Nat) (gV : List V → List V → List V) (sp : Sp) : Prop where
  ex : ∃ f fd g, Mk K C f ∧ FnOk P w K mg base CX0 k f fd ps sp ∧ KBn K fd ps (n + 1) ks g gV ∧ mg x = some (.ref C)
theorem pe_ownG {X : Cx} {x : Str} {C : Addr} {k n : Nat} {ps ks : List Str} {gV : List V → List V → List V} {sp : Sp} {e : Expr} {es : List Expr} {kws : List Keyword} {t tk : TA} {p pos : Pos} (O : OwnG X.prog X.w X.K X.mg X.base x C k ps ks n gV sp) (hr : Room (k + 1) X.A) (hg : Gl X x) (ha : PA X (e :: es) t) (hkw : PK X kws tk)
    (hall : (backToKw pos (keywordEach kws X.env)).all (·.1.isSome) = true := by rfl) (hks : (backToKw pos (keywordEach kws X.env)).filterMap (·.1) = ks := by rfl) (hdb : (x == ("__debug__" : Str)) = false := by decide) (he : starEach (e :: es) X.env = (false, eval e X.env) :: starEach es X.env := by rfl)
    (hpl : ((backTo pos (starEach (e :: es) X.env)).any (·.1) || (backToKw pos (keywordEach kws X.env)).any (·.1.isNone)) = false := by rfl) : PE X (.Call (.Name x p) (e :: es) kws pos) (tMakeK C n ks.length sp gV E0 t tk) := by
  obtain ⟨f, fd, g, M, F, hb, hm⟩ := O.ex
  exact pe_makeK M F hr hg hm hb pass0 ha hkw hall hks hdb he hpl
theorem vals_take : ∀ {vs : List V} {us : List Value} (j : Nat), Vals vs us → Vals (vs.take j) (us.take j)
  | _, _, 0, _ => .nil
  | _, _, _ + 1, .nil => .nil
  | _, _, j + 1, .cons a b => .cons a (vals_take j b)
theorem vals_put {vs mz zs : List V} {us mv ws : List Value} (j : Nat) (r1 : Vals vs us) (r3 : Vals mz mv) (r4 : Vals zs ws) : Vals (vs ++ (mz.take j ++ (zs ++ mz.drop j))) (us ++ (mv.take j ++ (ws ++ mv.drop j))) :=
  vals_app r1 (vals_app (vals_take j r3) (vals_app r4 (r3.drop j)))

/-! ### what a test asks is monotone -/
def MonoT (t : TT) : Prop := ∀ (σ : L2.St) (H : Hp) (Q Q' : Bool → Hp → Prop), (∀ (b : Bool) (H1 : Hp), Q b H1 → Q' b H1) → t σ H Q → t σ H Q'
def MonoE (t : TE) : Prop := ∀ (σ : L2.St) (H : Hp) (Q Q' : VK), (∀ (v : V) (H1 : Hp), Q v H1 → Q' v H1) → t σ H Q → t σ H Q'
def MonoA (t : TA) : Prop := ∀ (σ : L2.St) (H : Hp) (Q Q' : List V → Hp → Prop), (∀ (v : List V) (H1 : Hp), Q v H1 → Q' v H1) → t σ H Q → t σ H Q'
theorem mo_test {t : TE} (h : MonoE t) : MonoT (tTest t) := fun σ H Q Q' i q => h σ H _ _ (fun v H1 ⟨c, e, z⟩ => ⟨c, e, i _ _ z⟩) q
theorem mo_B {t : TE} (h : MonoE t) : MonoT (tB t) := fun σ H Q Q' i q => h σ H _ _ (fun v H1 ⟨c, e, z⟩ => ⟨c, e, i _ _ z⟩) q
theorem mo_not {t : TT} (h : MonoT t) : MonoT (tNot t) := fun σ H Q Q' i q => h σ H _ _ (fun b H1 z => i _ _ z) q
theorem mo_and {t u : TT} (h : MonoT t) (k : MonoT u) : MonoT (tAnd t u) := fun σ H Q Q' i q => h σ H _ _ (fun b H1 z => by
  cases b with
  | true => exact k σ H1 _ _ i z
  | false => exact i _ _ z) q
theorem mo_var {i : Nat} : MonoE (tVar i) := fun σ H Q Q' i ⟨v, e, q⟩ => ⟨v, e, i _ _ q⟩
theorem mo_const {v : V} : MonoE (tC v) := fun σ H Q Q' i q => i _ _ q
theorem mo_op {r : R2} {a b : TE} (hr : ∀ x y H (Q Q' : VK), (∀ (v : V) (H1 : Hp), Q v H1 → Q' v H1) → r x y H Q → r x y H Q') (ha : MonoE a) (hb : MonoE b) : MonoE (tOp r a b) := fun σ H Q Q' i q =>
  ha σ H _ _ (fun x H1 z => hb σ H1 _ _ (fun y H2 z => hr _ _ _ _ _ i z) z) q
theorem mo_nil : MonoA tNil := fun σ H Q Q' i q => i _ _ q
theorem mo_cons {e : TE} {t : TA} (he : MonoE e) (ht : MonoA t) : MonoA (tCons e t) := fun σ H Q Q' i q => he σ H _ _ (fun x H1 z => ht σ H1 _ _ (fun xs H2 z => i _ _ z) z) q
theorem mo_cb {r : List V → Hp → VK → Prop} {t : TA} (hr : ∀ xs H (Q Q' : VK), (∀ (v : V) (H1 : Hp), Q v H1 → Q' v H1) → r xs H Q → r xs H Q') (ht : MonoA t) : MonoE (tCB r t) := fun σ H Q Q' i q => ht σ H _ _ (fun xs H1 z => hr _ _ _ _ i z) q
theorem mo_call {sp : Sp} {dvs : List V} {E : XK} {t : TA} (hs : ∀ vs H (Q Q' : VK) E, (∀ (v : V) (H1 : Hp), Q v H1 → Q' v H1) → sp vs H Q E → sp vs H Q' E) (ht : MonoA t) : MonoE (tCall sp dvs E t) := fun σ H Q Q' i q => ht σ H _ _ (fun vs H1 z => hs _ _ _ _ _ i z) q
theorem mo_m1 {r : V → List V → Hp → VK → Prop} {a b : TE} (hr : ∀ x xs H (Q Q' : VK), (∀ (v : V) (H1 : Hp), Q v H1 → Q' v H1) → r x xs H Q → r x xs H Q') (ha : MonoE a) (hb : MonoE b) : MonoE (tM1 r a b) := fun σ H Q Q' i q =>
  ha σ H _ _ (fun x H1 ⟨e, z⟩ => ⟨e, hb σ H1 _ _ (fun y H2 z => hr _ _ _ _ _ i z) z⟩) q
theorem mo_I0 {g : Int → Int → V} : ∀ x y H (Q Q' : VK), (∀ (v : V) (H1 : Hp), Q v H1 → Q' v H1) → rI0 g x y H Q → rI0 g x y H Q' := fun x y H Q Q' i ⟨a, b, e1, e2, q⟩ => ⟨a, b, e1, e2, i _ _ q⟩
theorem mo_ix {K : PySem.W.Frag} : ∀ x y H (Q Q' : VK), (∀ (v : V) (H1 : Hp), Q v H1 → Q' v H1) → rIxL K x y H Q → rIxL K x y H Q' := fun x y H Q Q' i ⟨p, xs, j, z, e1, e2, e3, e4, q⟩ => ⟨p, xs, j, z, e1, e2, e3, e4, i _ _ q⟩

/-! ### levelled -/
theorem nine_spaces {l : List Nat} (h : ∀ c ∈ l, c ≠ 9) : isBlank l = spaces l := by
  unfold isBlank spaces
  induction l with
  | nil => rfl
  | cons c l ih =>
    have h9 : (c == 9) = false := beq_eq_false_iff_ne.mpr (h c (List.mem_cons_self ..))
    rw [List.all_cons, List.all_cons, h9, Bool.or_false, ih fun d m => h d (List.mem_cons_of_mem _ m)]
theorem exp_no9 (n col : Nat) (l : List Nat) : ∀ c ∈ Mun.expT n col l, c ≠ 9 := fun c h => by
  rcases Mun.exp_mem l col c h with rfl | ⟨_, h⟩
  · decide
  · exact h
theorem exp_no (n col : Nat) {l : List Nat} {d : Nat} (hd : d ≠ 32) (hl : d ∉ l) : d ∉ Mun.expT n col l := fun h => by
  rcases Mun.exp_mem l col d h with e | ⟨e, _⟩
  · exact hd e
  · exact hl e
theorem mk_of_tl : ∀ {ss : List Str} {ws : List (List Nat)}, ss.map tl = ws → ss = ws.map mk
  | [], ws, h => by
    rw [← h]
    rfl
  | s :: r, ws, h => by
    rw [← h, List.map_cons, List.map_cons, mk_tl', ← mk_of_tl (ss := r) rfl]
theorem split_join {x : Str} {ws : List (List Nat)} (h : tl x = joinL [10] ws) (hn : ws ≠ []) (h10 : ∀ l ∈ ws, (10 : Nat) ∉ l) : Txt.split x "\n" = ws.map mk := by
  refine mk_of_tl ?_
  rw [nl_eq, splitOf x (y := [10]) (by simp) (by decide), h]
  exact TL.spl_join hn h10
theorem sp_one : (" " : Str) = ⟨#[32]⟩ := ext_tl (by decide +kernel)
theorem len_one {a : Nat} : (⟨#[a]⟩ : Str).length = 1 := rfl
theorem lead_take (ws : List (List Nat)) {i : Nat} {l : List Nat} (h : ws[i]? = some l) : leads (ws.take (i + 1)) = leads (ws.take i) ++ (if spaces l then [] else [lead l]) := by
  unfold leads
  rw [take_filter _ h, List.map_append]
  cases spaces l <;> rfl
def natV (ns : List Nat) : List V := (ns.map fun n : Nat => (n : Int)).map V.int
theorem natV_app (a b : List Nat) : natV (a ++ b) = natV a ++ natV b := by
  unfold natV
  rw [List.map_append, List.map_append]
theorem leads_len (ws : List (List Nat)) : (leads ws).length ≤ ws.length := by
  unfold leads
  rw [List.length_map]
  exact List.length_filter_le ..
theorem join_parts : ∀ ws : List (List Nat), ws.length ≤ (joinL [10] ws).length + 1 ∧ ∀ l ∈ ws, l.length ≤ (joinL [10] ws).length
  | [] => ⟨Nat.zero_le _, fun _ h => (by cases h)⟩
  | [a] => ⟨by show 1 ≤ _; omega, fun l h => by rw [List.mem_singleton.mp h]; exact Nat.le_refl _⟩
  | a :: b :: r => by
    have ih := join_parts (b :: r)
    have e : joinL [10] (a :: b :: r) = a ++ ([10] ++ joinL [10] (b :: r)) := rfl
    have el : (joinL [10] (a :: b :: r)).length = a.length + (1 + (joinL [10] (b :: r)).length) := by rw [e, List.length_append, List.length_append]; rfl
    refine ⟨by rw [el, List.length_cons]; omega, fun l h => ?_⟩
    rcases List.mem_cons.mp h with rfl | h
    · omega
    · have := ih.2 l h
      omega
theorem app_len (x y : Str) : (x ++ y).length = x.length + y.length := by
  rw [len_tl, tl_append, List.length_append, len_tl, len_tl]
theorem nl_sum (m : Nat) (ws : List (List Nat)) (h : ws ≠ []) (hl : ∀ l ∈ ws, l.length ≤ m) : (joinL [10] ws).length + 1 ≤ m * ws.length + ws.length := by
  have a := joinL_len [10] h
  have b := sum_map_le (fun l : List Nat => l.length) (fun _ => m) ws hl
  have c : (ws.map fun _ => m).sum = m * ws.length := by
    clear a b h hl
    induction ws with
    | nil => rfl
    | cons x r ih =>
      rw [List.map_cons, List.sum_cons, ih, List.length_cons, Nat.mul_succ]
      omega
  have e1 : ([10] : List Nat).length = 1 := rfl
  rw [e1] at a
  omega
theorem sp_dec (c : Nat) : decide (V.str ⟨#[c]⟩ = V.str " ") = (c == 32) := by
  rw [sp_one, Bool.eq_iff_iff, decide_eq_true_iff, beq_iff_eq]
  constructor
  · intro h
    exact List.head_eq_of_cons_eq (congrArg (fun v => match v with | V.str y => tl y | _ => []) h)
  · rintro rfl
    rfl
theorem mem_join0 {c : Nat} : ∀ ws : List (List Nat), c ∈ joinL [] ws → ∃ u ∈ ws, c ∈ u
  | [], h => by cases h
  | [a], h => ⟨a, List.mem_cons_self .., h⟩
  | a :: b :: r, h => by
    have e : joinL [] (a :: b :: r) = a ++ ([] ++ joinL [] (b :: r)) := rfl
    rw [e, List.nil_append] at h
    rcases List.mem_append.mp h with h | h
    · exact ⟨a, List.mem_cons_self .., h⟩
    · obtain ⟨u, h1, h2⟩ := mem_join0 (b :: r) h
      exact ⟨u, List.mem_cons_of_mem _ h1, h2⟩
theorem lines_sum {ws : List (List Nat)} (h : ws ≠ []) (m : Nat) : ((ws.map fun l => mk (l.drop m)).map (·.length)).sum + ws.length ≤ (joinL [10] ws).length + 1 := by
  have a := joinL_len [10] h
  have b := sum_map_le (fun l : List Nat => (mk (l.drop m)).length) (fun l => l.length) ws fun l _ => by
    show (mk (l.drop m)).length ≤ l.length
    rw [mk_len, List.length_drop]
    omega
  rw [List.map_map]
  have e : ((fun x : Str => x.length) ∘ fun l : List Nat => mk (l.drop m)) = fun l : List Nat => (mk (l.drop m)).length := rfl
  rw [e]
  have e1 : ([10] : List Nat).length = 1 := rfl
  rw [e1] at a
  omega
theorem join_lev (ws : List (List Nat)) : Txt.join "\n" (ws.map fun l => mk (l.drop (leastN (leads ws)))) = mk (joinL [10] (levW ws)) := by
  have e : (ws.map fun l => mk (l.drop (leastN (leads ws)))) = (levW ws).map mk := by
    unfold levW
    rw [List.map_map]
    rfl
  rw [e]
  exact join_mk [10] _
theorem tab_dec (c : Nat) : decide (V.str ⟨#[c]⟩ = V.str "\t") = decide (c = 9) := by
  rw [tab_eq, Bool.eq_iff_iff, decide_eq_true_iff, decide_eq_true_iff]
  constructor
  · intro h
    exact List.head_eq_of_cons_eq (congrArg (fun v => match v with | V.str y => tl y | _ => []) h)
  · rintro rfl
    rfl
theorem strip_test (x : Str) : decide (V.str (Txt.stripChars x " ") = V.str "") = spaces (tl x) := by
  rw [sp_one, Bool.eq_iff_iff, decide_eq_true_iff, ← spaces_strip]
  constructor
  · intro h
    rw [V.str.inj h]
    decide +kernel
  · intro h
    refine congrArg V.str (ext_tl ?_)
    rw [len_tl] at h
    rw [List.length_eq_zero_iff.mp h]
    decide +kernel

section
variable {P : Program} {w : World} {K : PySem.W.Frag} {mg : Str → Option Value} {base : Heap}
/-! ### the program -/
def sp_is_blank : Sp := fun vs H Q _ => ∃ x : Str, vs = [.str x] ∧ x.length ≤ 1000000 ∧ Q (.bl (isBlank (tl x))) H
theorem ok_is_blank {f : Addr} {fd : FuncData} {dvs : List V} (F : Fn K "is_blank" s_is_blank dvs f fd) {t_BLANKS : Tok} (c_BLANKS : mg "BLANKS" = some (.str " \t" t_BLANKS)) : FnOk P w K mg base CX0 1 f fd ["line"] (sp_is_blank) := by
  refine Fn.okN F sc_is_blank (fun vs H Q E h => ?_) (fun cdv A outer s H vs Q E hr h => ?_)
  · obtain ⟨_, rfl, _⟩ := h
    rfl
  · obtain ⟨x, rfl, hx, k⟩ := h
    refine ⟨_, (pss_one (ps_ret (pe_notT (pe_m1 PySem.F.slot_str_strip PySem.F.type_str_strip mt_stripChars (pv 0) (pe_glob (v := .str " \t") rfl c_BLANKS ⟨_, rfl⟩))))), ?_⟩
    have e : (" \t" : Str) = ⟨#[32, 9]⟩ := ext_tl (by decide +kernel)
    refine ⟨_, rfl, ⟨_, rfl⟩, x, " \t", rfl, rfl, line_of hx, _, ⟨?_, rfl⟩, ?_⟩
    · exact Nat.le_trans (len_stripBy _ _ _ _) (line_of hx)
    · rw [e]
      have hb := blank_strip x
      cases h : isBlank (tl x) with
      | true =>
        rw [h] at k
        rw [show (((Txt.stripChars x ⟨#[32, 9]⟩).length : Int) != 0) = false by rw [hb.mpr h]; rfl]
        exact k
      | false =>
        rw [h] at k
        have hne : (Txt.stripChars x ⟨#[32, 9]⟩).length ≠ 0 := fun z => by
          rw [hb.mp z] at h
          cases h
        rw [show (((Txt.stripChars x ⟨#[32, 9]⟩).length : Int) != 0) = true by
          rw [bne_iff_ne]
          omega]
        exact k
def sp_indent_of : Sp := fun vs H Q _ => ∃ x : Str, vs = [.str x] ∧ x.length ≤ 1000000 ∧ Q (.int (lead (tl x) : Nat)) H
theorem ok_indent_of {f : Addr} {fd : FuncData} {dvs : List V} (F : Fn K "indent_of" s_indent_of dvs f fd) (m_len : mg "len" = none) : FnOk P w K mg base CX0 1 f fd ["line"] (sp_indent_of) := by
  refine Fn.okN F sc_indent_of (fun vs H Q E h => ?_) (fun cdv A outer s H vs Q E hr h => ?_)
  · obtain ⟨_, rfl, _⟩ := h
    rfl
  · obtain ⟨x, rfl, hx, k⟩ := h
    refine ⟨_, (pss_one (ps_ret (pe_op op_sub (pe_callB call_len_str (by rfl) m_len PySem.boot_len (pa_cons (pv 0) pa_nil)) (pe_callB call_len_str (by rfl) m_len PySem.boot_len (pa_cons (pe_m1 PySem.F.slot_str_lstrip PySem.F.type_str_lstrip mt_lstripChars (pv 0) pe_str) pa_nil))))), ?_⟩
    have e := indent_len x
    rw [← sp_one] at e
    rw [← e] at k
    exact ⟨.str x, rfl, x, rfl, line_of hx, .str x, rfl, ⟨_, rfl⟩, x, " ", rfl, rfl, line_of hx, _, rfl, Nat.le_trans (len_stripBy _ _ _ _) (line_of hx), _, _, rfl, rfl, k⟩
def sp_widened : Sp := fun vs H Q _ => ∃ x : Str, vs = [.str x] ∧ (tl x).length ≤ 10000 ∧ Q (.str (SX.S (Mun.expT 8 0 (tl x)))) H
theorem ok_widened {f : Addr} {fd : FuncData} {dvs : List V} (F : Fn K "widened" s_widened dvs f fd) {t_TAB : Tok} (c_TAB : mg "TAB" = some (.int 8 t_TAB)) : FnOk P w K mg base CX0 1 f fd ["text"] (sp_widened) := by
  refine Fn.okN F sc_widened (fun vs H Q E h => ?_) (fun cdv A outer s H vs Q E hr h => ?_)
  · obtain ⟨_, rfl, _⟩ := h
    rfl
  · obtain ⟨x, rfl, hx, k⟩ := h
    refine ⟨_, (pss_one (ps_ret (pe_m1 PySem.F.slot_str_expandtabs PySem.F.type_str_expandtabs mt_expandtabs (pv 0) (pe_glob (v := .int 8) rfl c_TAB ⟨_, rfl⟩)))), ?_⟩
    have lE := (Mun.exp_len (n := 8) (by decide) (tl x) 0).2
    exact ⟨.str x, rfl, ⟨_, rfl⟩, tl x, 8, congrArg V.str (mk_tl' x).symm, rfl, by decide, by decide, by omega, by omega, k⟩
def sp_levelled : Sp := fun vs H Q _ => ∃ (x : Str) (ls : List (List Nat)), vs = [.str x] ∧ tl x = joinL [10] ls ∧ ls ≠ [] ∧ (∀ l ∈ ls, ∀ c ∈ l, c ≠ 10 ∧ c ≠ 13) ∧ (tl x).length ≤ 10000 ∧
  ∀ H', Same H H' → Q (.str (mk (joinL [10] (levW (ls.map (Mun.expT 8 0)))))) H'
theorem ok_levelled {f : Addr} {fd : FuncData} {dvs : List V} (F : Fn K "levelled" s_levelled dvs f fd) (O_widened : Own P w K mg base "widened" 1 ["text"] [] (sp_widened)) (O_is_blank : Own P w K mg base "is_blank" 1 ["line"] [] (sp_is_blank)) (O_indent_of : Own P w K mg base "indent_of" 1 ["line"] [] (sp_indent_of)) (m_min : mg "min" = none) : FnOk P w K mg base CX0 2 f fd ["text"] (sp_levelled) := by
  refine Fn.okN F sc_levelled (fun vs H Q E h => ?_) (fun cdv A outer s H vs Q E hr h => ?_)
  · obtain ⟨_, _, rfl, _⟩ := h
    rfl
  · obtain ⟨x, ls, rfl, ex, hn, hc, hx, k⟩ := h
    refine ⟨_, (pss_cons (ps_set (i := 1) sc_levelled.nd rfl (.inl rfl) (pe_m1 PySem.F.slot_str_split PySem.F.type_str_split mt_split (pe_own O_widened (hr.mono (by decide)) (by rfl) (pa_cons (pv 0) pa_nil)) pe_str))
      (pss_cons (ps_set (i := 2) sc_levelled.nd rfl (.inr rfl) (pe_callBK (cr_minD rfl) (by rfl) m_min (by decide +kernel) (pa_cons (pe_lc (own := [("line", 3)]) (g := gName 3) (by rfl) sc_levelled.nd (pi_list (pv 1)) (blkOk_by (own := [("line", 3)]) (N := ["text", "lines", "least", "line"]) (sc := defScope s_levelled) (by decide +kernel)) (fun _ _ _ _ _ => (pg_name (i := 3) sc_levelled.nd rfl (.inl rfl))) (fun _ _ _ _ _ => (pts_one (pt_not (pt_val (pe_own O_is_blank (hr.mono (by decide)) (by rfl) (pa_cons (pv 3) pa_nil)))))) (fun _ _ _ _ _ => (pe_own O_indent_of (hr.mono (by decide)) (by rfl) (pa_cons (pv 3) pa_nil)))) pa_nil) (pk_cons pe_int pk_nil)))
      (pss_one (ps_ret (pe_m1 PySem.F.slot_str_join PySem.F.type_str_join mt_join pe_str (pe_lc (own := [("line", 3)]) (g := gName 3) (tt := tYes) (by rfl) sc_levelled.nd (pi_list (pv 1)) (blkOk_by (own := [("line", 3)]) (N := ["text", "lines", "least", "line"]) (sc := defScope s_levelled) (by decide +kernel)) (fun _ _ _ _ _ => (pg_name (i := 3) sc_levelled.nd rfl (.inl rfl))) (fun _ _ _ _ _ => pts_nil) (fun _ _ _ _ _ => (pe_slice sl_str (pv 3) (po_some (pv 2)) po_none)))))))), ?_⟩
    have eE : tl (SX.S (Mun.expT 8 0 (tl x))) = joinL [10] (ls.map (Mun.expT 8 0)) := by
      rw [← exp_join ls hc, ← ex]
    have lE := (Mun.exp_len (n := 8) (by decide) (tl x) 0).2
    have hW : ls.map (Mun.expT 8 0) ≠ [] := fun z => hn (List.map_eq_nil_iff.mp z)
    have h10 : ∀ l ∈ ls.map (Mun.expT 8 0), (10 : Nat) ∉ l := fun l hl => by
      obtain ⟨l', h', rfl⟩ := List.mem_map.mp hl
      exact exp_no 8 0 (by decide) fun z => (hc l' h' 10 z).1 rfl
    have h9 : ∀ l ∈ ls.map (Mun.expT 8 0), ∀ c ∈ l, c ≠ 9 := fun l hl => by
      obtain ⟨l', h', rfl⟩ := List.mem_map.mp hl
      exact exp_no9 8 0 l'
    have eS := split_join eE hW h10
    have pj := join_parts (ls.map (Mun.expT 8 0))
    rw [← eE] at pj
    have lE2 : (tl (SX.S (Mun.expT 8 0 (tl x)))).length ≤ 80000 := by
      show (Mun.expT 8 0 (tl x)).length ≤ 80000
      omega
    generalize ls.map (Mun.expT 8 0) = W at *
    refine ⟨.str x, rfl, x, rfl, hx, ⟨_, rfl⟩, _, "\n", rfl, rfl, by decide +kernel, ?_, fun p np => ?_⟩
    · rw [len_tl]
      exact line_of (by omega)
    rw [eS]
    have sp := same_new (o := .lst ((W.map mk).map V.str)) np
    refine ⟨.ref p, rfl, p, rfl, ⟨_, SqL.of upd_same⟩, fun L nL => lc_list (K := K) (a := p) (xs := (W.map mk).map V.str) (fun i H2 => H2 L = some (.lst (natV (leads (W.take i)))) ∧ Same (upd H p (.lst ((W.map mk).map V.str))) H2) ⟨upd_same, same_new nL⟩ (fun i H2 _ h2 => SqL.of (h2.2 _ _ upd_same)) ?_ ?_⟩
    · rintro i y H2 hi ⟨eL, s2⟩
      obtain ⟨z, rfl, hz⟩ := str_at hi
      rw [List.getElem?_map] at hz
      obtain ⟨l, hl, rfl⟩ := Option.map_eq_some_iff.mp hz
      have hm := List.mem_of_getElem? hl
      have ll := pj.2 l hm
      have lw : W.length ≤ 80001 := by omega
      have hi2 : i < W.length := (List.getElem?_eq_some_iff.mp hl).1
      have lm : (mk l).length ≤ 1000000 := by rw [mk_len]; omega
      refine ⟨rfl, .str (mk l), rfl, mk l, rfl, lm, _, rfl, ?_⟩
      rw [lead_take W hl, show isBlank (tl (mk l)) = spaces l from nine_spaces (h9 l hm)]
      show (if (!spaces l) = true then _ else _)
      cases spaces l with
      | true =>
        refine iteF ⟨?_, s2⟩
        show H2 L = some (.lst (natV (leads (W.take i) ++ [])))
        rw [List.append_nil]
        exact eL
      | false =>
        have l3 := leads_len (W.take i)
        rw [List.length_take] at l3
        refine iteT ⟨.str (mk l), rfl, mk l, rfl, lm, _, eL, ?_, ?_, fun b o e => ?_⟩
        · unfold natV
          rw [List.length_map, List.length_map]
          exact Nat.lt_of_le_of_lt (show (leads (W.take i)).length ≤ 80001 by omega) (by decide)
        · rw [upd_same]
          show some (HO.lst (natV (leads (W.take i)) ++ [.int (lead l : Nat)])) = some (.lst (natV (leads (W.take i) ++ [lead l])))
          rw [natV_app]
          rfl
        · rw [upd_ne (ne_of_none e nL)]
          exact s2 b o e
    · rintro H2 ⟨eL, s2⟩
      rw [List.length_map, List.length_map, List.take_length] at eL
      refine ⟨L, (leads W).map (fun n : Nat => (n : Int)), 0, rfl, rfl, SqL.of eL, fun m hm => ?_⟩
      have em : m = (leastN (leads W) : Nat) := by
        rcases hm with ⟨e, rfl⟩ | ⟨h1, h2⟩
        · rw [List.map_eq_nil_iff.mp e]
          rfl
        · exact leastN_int h1 h2
      subst em
      generalize em : leastN (leads W) = m
      refine ⟨⟨_, rfl⟩, .ref p, rfl, p, rfl, ⟨_, SqL.of (s2 _ _ upd_same)⟩, fun M nM => lc_list (K := K) (a := p) (xs := (W.map mk).map V.str) (fun i H3 => H3 M = some (.lst (((W.take i).map fun l => mk (l.drop m)).map V.str)) ∧ Same H2 H3) ⟨upd_same, same_new nM⟩ (fun i H3 _ h3 => SqL.of (h3.2 _ _ (s2 _ _ upd_same))) ?_ ?_⟩
      · rintro i y H3 hi ⟨eM, s3⟩
        obtain ⟨z, rfl, hz⟩ := str_at hi
        rw [List.getElem?_map] at hz
        obtain ⟨l, hl, rfl⟩ := Option.map_eq_some_iff.mp hz
        have ll := pj.2 l (List.mem_of_getElem? hl)
        have lm : (mk l).length ≤ 1000000 := by rw [mk_len]; omega
        have hi2 : i < W.length := (List.getElem?_eq_some_iff.mp hl).1
        refine ⟨rfl, ?_⟩
        unfold tYes
        show ite (true = true) _ _
        rw [if_pos rfl]
        refine ⟨.str (mk l), rfl, .int (m : Nat), rfl, m, rfl, mk l, rfl, line_of lm, _, eM, ?_, ?_, fun b o e => ?_⟩
        · rw [List.length_map, List.length_map, List.length_take]
          exact Nat.lt_of_le_of_lt (show min i W.length ≤ 80001 by omega) (by decide)
        · rw [upd_same, List.take_add_one, hl, List.map_append, List.map_append]
          refine congrArg (fun v => some (HO.lst (((W.take i).map fun l => mk (l.drop m)).map V.str ++ [v]))) (congrArg V.str (ext_tl ?_))
          rw [cutS_from]
          rfl
        · rw [upd_ne (ne_of_none e nM)]
          exact s3 b o e
      · rintro H3 ⟨eM, s3⟩
        rw [List.length_map, List.length_map, List.take_length] at eM
        have sl := lines_sum hW m
        rw [← eE] at sl
        refine ⟨"\n", M, _, rfl, rfl, .inl (SqL.of eM), ?_, ?_⟩
        · rw [List.length_map]
          have e1 : ("\n" : Str).length = 1 := rfl
          rw [e1, Nat.mul_one]
          exact Nat.le_trans sl (by omega)
        · rw [← em, join_lev]
          exact k _ (sp.trans (s2.trans s3))
end

/-! ### lines, kept and bare -/
theorem kit_self (K : PySem.W.Frag) (C : Addr) : PySem.W.kitOne K (.ref C) (.ref C) = some true := by
  unfold PySem.W.kitOne
  exact if_pos (by first | exact beq_self_eq_true _ | (show (C == C) = true; exact beq_self_eq_true C))
theorem bnd_items {K : PySem.W.Frag} {s : Shared} {fd : FuncData} {args : Args} {binds : List (Str × Value)} {T : Addr} {o : Obj} {its : Array Value} {n : Nat} (X : K.In s.heap) (lT : K.lookup T = some o) (oT : o.data = .seq its n) (h : ∃ k, bindArgs fd args = seqItems? (.ref T) >>= k ∧ k (some its) = pure binds) : BindsTo s fd args binds := L2.BindsTo.of_looks fun M => by
  obtain ⟨k, e1, e2⟩ := h
  rw [e1]
  exact looks_items X lT oT (PySem.W.Looks.of_pure e2)
def rowsV (ws : List (List Nat)) : HO := .lst ((ws.map mk).map V.str)
def ifAny (last : List Nat) : List (List Nat) := if last.isEmpty = true then [] else [last]
def keptOf (init : List (List Nat)) (last : List Nat) : List (List Nat) := init.map (· ++ [10]) ++ ifAny last
def rowsOf (init : List (List Nat)) (last : List Nat) : List (List Nat) := init ++ ifAny last
def bg (x y : Str) : Bool := Txt.startswith (Txt.lstripChars x " ") y
def X0 : List Nat := [62, 62, 62, 32, 120]
def wordS : List Nat → Bool
  | [] => false
  | c :: _ => c == 95 || Txt.isalnum ⟨#[c]⟩
def isHead (h : List Nat) : Bool := inV (.str (Txt.rstripChars (mk h) " ")) (v_HEADERS.map V.str)
def noNl (l : List Nat) : List Nat := tl (Txt.removesuffix (mk l) "\n")
def flatO : List (List Nat) → Option (List Nat)
  | [] => none
  | d => some (joinL [] d)
def errP : List (List Nat) → Option (List Nat)
  | [] => none
  | h :: r => if isHead (noNl h) = true then flatO (r.dropWhile fun l => !wordS l) else none
def errL : List (List Nat) → Option (List Nat)
  | [] => none
  | h :: r => if isHead h = true then flatO ((r.dropWhile fun l => !wordS l).map (· ++ [10])) else none
def optV : Option (List Nat) → V
  | none => .non
  | some l => .str (mk l)
theorem ten_eq : ("\n" : Str) = ⟨#[10]⟩ := ext_tl (by decide +kernel)
theorem noNl_fed (l : List Nat) : noNl (l ++ [10]) = l := by
  have k := (StrLaws.subAt_one (mk (l ++ [10])) 10 l.length).mpr (by
    show (l ++ [10])[l.length]? = some 10
    rw [List.getElem?_append_right (Nat.le_refl _), Nat.sub_self]
    rfl)
  have hl : (mk (l ++ [10])).length = l.length + 1 := by rw [mk_len, List.length_append]; rfl
  have l1 : (⟨#[10]⟩ : Str).length = 1 := rfl
  unfold noNl Txt.removesuffix
  rw [ten_eq, hl, l1, Nat.add_sub_cancel, k.2, Bool.and_true, decide_eq_true (by omega), if_pos rfl]
  unfold Txt.affix
  dsimp only
  rw [hl, Nat.sub_zero, show (l.length == l.length + 1) = false by rw [beq_eq_false_iff_ne]; omega, if_neg Bool.false_ne_true]
  rw [tl_strSub, List.drop_zero, Nat.sub_zero]
  show (l ++ [10]).take l.length = l
  rw [List.take_left]
theorem find3_none {x : Str} (h : (35 : Nat) ∉ tl x) (i : Int) : Txt.find3 x "#" i = -1 := by
  have e : ("#" : Str) = ⟨#[35]⟩ := ext_tl (by decide +kernel)
  unfold Txt.find3
  rcases StrLaws.occ_head_from x "#" (fromIndex x.length i) 1 (Nat.le_refl _) with ⟨h0, _⟩ | ⟨j, r, h0, _, hj, _⟩
  · rw [h0]
  · rw [e] at hj
    exact absurd (List.mem_of_getElem? (show (tl x)[j]? = some 35 from (StrLaws.subAt_one x 35 j).mp hj)) h
theorem kept_ne (init : List (List Nat)) (last : List Nat) : ∀ l ∈ keptOf init last, l ≠ [] := fun l hl => by
  rcases List.mem_append.mp hl with h | h
  · obtain ⟨l', _, rfl⟩ := List.mem_map.mp h
    simp
  · unfold ifAny at h
    cases last with
    | nil => cases h
    | cons c r =>
      rw [List.mem_singleton.mp h]
      simp
theorem sum_fed : ∀ ls : List (List Nat), ((ls.map (· ++ [10])).map (·.length)).sum = (ls.map (·.length)).sum + ls.length
  | [] => rfl
  | l :: r => by
    have ih := sum_fed r
    rw [List.map_cons, List.map_cons, List.map_cons, List.sum_cons, List.sum_cons, ih, List.length_append, List.length_cons (a := l) (as := r)]
    show l.length + 1 + _ = _
    omega
theorem kept_sum (init : List (List Nat)) (last : List Nat) : ((keptOf init last).map (·.length)).sum ≤ (joinL [10] (init ++ [last])).length := by
  have a := joinL_len [10] (ps := init ++ [last]) (by simp)
  have e1 : ([10] : List Nat).length = 1 := rfl
  rw [e1, List.map_append, List.sum_append, List.length_append] at a
  have c : ([last].map (·.length)).sum = last.length := by
    show last.length + 0 = _
    omega
  rw [c] at a
  have e2 : [last].length = 1 := rfl
  rw [e2] at a
  unfold keptOf ifAny
  rw [List.map_append, List.sum_append, sum_fed]
  split
  · show _ + 0 ≤ _
    omega
  · rw [c]
    omega
theorem drop_sum : ∀ (ws : List (List Nat)) (k : Nat), ((ws.drop k).map (·.length)).sum ≤ (ws.map (·.length)).sum
  | [], k => by
    rw [List.drop_nil]
    exact Nat.le_refl _
  | w :: r, 0 => Nat.le_refl _
  | w :: r, k + 1 => by
    have ih := drop_sum r k
    rw [List.drop_succ_cons, List.map_cons, List.sum_cons]
    omega
theorem cutV_drop (xs : List V) (k : Nat) (h : k ≤ xs.length) : cutV xs (some (k : Int)) none = xs.drop k := by
  unfold cutV
  rw [HT.sIx_nat, HT.sIx_none, Nat.min_eq_left h]
  exact List.take_of_length_le (by rw [List.length_drop]; omega)
theorem dropWhile_at {p : List Nat → Bool} : ∀ {r : List (List Nat)} {i : Nat} {l : List Nat}, r[i]? = some l → p l = false → (∀ j l', j < i → r[j]? = some l' → p l' = true) → r.dropWhile p = r.drop i
  | [], i, l, h, _, _ => by cases h
  | a :: r, 0, l, h, hp, _ => by
    cases h
    rw [List.dropWhile_cons, hp]
    rfl
  | a :: r, i + 1, l, h, hp, ha => by
    rw [List.dropWhile_cons, ha 0 a (Nat.zero_lt_succ _) rfl]
    show r.dropWhile p = r.drop i
    exact dropWhile_at h hp fun j l' hj hl => ha (j + 1) l' (Nat.succ_lt_succ hj) hl
theorem dropWhile_none {p : List Nat → Bool} : ∀ {r : List (List Nat)}, (∀ l ∈ r, p l = true) → r.dropWhile p = []
  | [], _ => rfl
  | a :: r, h => by
    rw [List.dropWhile_cons, h a (List.mem_cons_self ..)]
    exact dropWhile_none fun l hl => h l (List.mem_cons_of_mem _ hl)
theorem us_dec (c : Nat) : decide (V.str ⟨#[c]⟩ = V.str "_") = (c == 95) := by
  have e : ("_" : Str) = ⟨#[95]⟩ := ext_tl (by decide +kernel)
  rw [e, Bool.eq_iff_iff, decide_eq_true_iff, beq_iff_eq]
  constructor
  · intro h
    exact List.head_eq_of_cons_eq (congrArg (fun v => match v with | V.str y => tl y | _ => []) h)
  · rintro rfl
    rfl
theorem noNl_free {l : List Nat} (h : (10 : Nat) ∉ l) : noNl l = l := by
  have l1 : (⟨#[10]⟩ : Str).length = 1 := rfl
  unfold noNl Txt.removesuffix
  rw [ten_eq, l1]
  cases hb : (decide (1 ≤ (mk l).length) && Builtin.Str.subAt (mk l) ⟨#[10]⟩ ((mk l).length - 1)) with
  | false =>
    rw [if_neg Bool.false_ne_true]
    rfl
  | true =>
    rw [Bool.and_eq_true, decide_eq_true_eq] at hb
    have k := (StrLaws.subAt_one (mk l) 10 ((mk l).length - 1)).mp ⟨by rw [l1]; omega, hb.2⟩
    exact absurd (List.mem_of_getElem? (show l[_]? = some 10 from k)) h
theorem starts_empty (x : Str) : Txt.startswith x "" = true := by
  have e : ("" : Str) = ⟨#[]⟩ := ext_tl (by decide +kernel)
  unfold Txt.startswith
  rw [e, Nat.zero_add, StrLaws.subAt_eq, List.drop_zero]
  show (decide (0 ≤ x.length) && ((tl x).take 0 == [])) = true
  rw [decide_eq_true (Nat.zero_le _), List.take_zero]
  rfl
theorem ends_ten (l : List Nat) : Txt.endswith (mk (l ++ [10])) "\n" = true := by
  have k := (StrLaws.subAt_one (mk (l ++ [10])) 10 l.length).mpr (by
    show (l ++ [10])[l.length]? = some 10
    rw [List.getElem?_append_right (Nat.le_refl _), Nat.sub_self]
    rfl)
  have hl : (mk (l ++ [10])).length = l.length + 1 := by rw [mk_len, List.length_append]; rfl
  have l1 : (⟨#[10]⟩ : Str).length = 1 := rfl
  unfold Txt.endswith
  rw [ten_eq, hl, l1, Nat.add_sub_cancel, k.2, Bool.and_true, decide_eq_true (by omega)]
theorem joinL_more (S a : List Nat) {ps : List (List Nat)} (h : ps ≠ []) : joinL S (a :: ps) = a ++ (S ++ joinL S ps) := by
  cases ps with
  | nil => exact absurd rfl h
  | cons b r => rfl
theorem joinL_flat (a : List Nat) (r : List (List Nat)) : joinL [] (a :: r) = a ++ joinL [] r := by
  cases r with
  | nil =>
    show a = a ++ []
    rw [List.append_nil]
  | cons b r => rfl
theorem join_ten : ∀ ls : List (List Nat), joinL [10] (ls ++ [[]]) = joinL [] (ls.map (· ++ [10]))
  | [] => rfl
  | a :: r => by
    rw [List.cons_append, joinL_more _ _ (by simp), join_ten r, List.map_cons, joinL_flat, List.append_assoc]
theorem flat_ten : ∀ ls : List (List Nat), ls ≠ [] → ∃ m, joinL [] (ls.map (· ++ [10])) = m ++ [10]
  | [], h => absurd rfl h
  | [a], _ => ⟨a, rfl⟩
  | a :: b :: r, _ => by
    obtain ⟨m, e⟩ := flat_ten (b :: r) (by simp)
    rw [List.map_cons, joinL_flat, e]
    exact ⟨(a ++ [10]) ++ m, (List.append_assoc ..).symm⟩
theorem flat_len (ls : List (List Nat)) : (joinL [] (ls.map (· ++ [10]))).length = (ls.map (·.length)).sum + ls.length := by
  rw [← sum_fed]
  generalize ls.map (· ++ [10]) = k
  induction k with
  | nil => rfl
  | cons a r ih => rw [joinL_flat, List.length_append, ih, List.map_cons, List.sum_cons]
theorem err_ten (ls : List (List Nat)) : optV (errP (ls.map (· ++ [10]))) = .non ∨ ∃ e : Str, optV (errP (ls.map (· ++ [10]))) = .str e ∧ Txt.endswith e "\n" = true := by
  cases ls with
  | nil => exact .inl rfl
  | cons h r =>
    unfold errP
    rw [List.map_cons]
    dsimp only
    split
    · rw [List.dropWhile_map]
      generalize r.dropWhile _ = z
      cases z with
      | nil => exact .inl rfl
      | cons a b =>
        obtain ⟨m, e⟩ := flat_ten (a :: b) (by simp)
        refine .inr ⟨mk (joinL [] ((a :: b).map (· ++ [10]))), rfl, ?_⟩
        rw [e]
        exact ends_ten m
    · exact .inl rfl
theorem cutV_seg (xs : List V) (a b : Nat) (h1 : a ≤ b) (h2 : b ≤ xs.length) : cutV xs (some (a : Int)) (some (b : Int)) = (xs.drop a).take (b - a) := by
  unfold cutV
  rw [HT.sIx_nat, HT.sIx_nat, Nat.min_eq_left h2, Nat.min_eq_left (Nat.le_trans h1 h2)]
theorem le_sum {l : List Nat} : ∀ {ls : List (List Nat)}, l ∈ ls → l.length ≤ (ls.map (·.length)).sum
  | a :: r, h => by
    rw [List.map_cons, List.sum_cons]
    rcases List.mem_cons.mp h with rfl | h
    · omega
    · have := le_sum h
      omega
theorem rsuf_len (x y : Str) : (Txt.removesuffix x y).length ≤ x.length := by
  unfold Txt.removesuffix
  split
  · unfold Txt.affix
    dsimp only
    split
    · exact Nat.le_refl _
    · rw [len_tl, len_tl, tl_strSub, List.length_take, List.length_drop]
      omega
  · exact Nat.le_refl _
theorem ite_er {k : Bool} {er : V} {σ : L2.St} {H : Hp} {Q : VK} {u : TE} (c : Q er H) (ha : k = true → er = .non) (b : k = false → ∀ e : Str, er = .str e → Txt.endswith e "\n" = true → Q (.str e) H → u σ H Q) (hb : k = false → ∃ e : Str, er = .str e ∧ Txt.endswith e "\n" = true) : if k = true then tC .non σ H Q else u σ H Q := by
  cases k with
  | true =>
    rw [ha rfl] at c
    exact iteT c
  | false =>
    obtain ⟨e, e1, e2⟩ := hb rfl
    refine iteF (b rfl e e1 e2 ?_)
    rw [← e1]
    exact c
theorem ite_same {k : Bool} {A B C : Prop} (c : C) (a : k = true → C → A) (b : k = false → C → B) : if k = true then A else B := by
  cases k with
  | true => exact iteT (a rfl c)
  | false => exact iteF (b rfl c)
def Out (x : Addr) (H H' : Hp) : Prop := ∀ b o, H b = some o → b ≠ x → H' b = some o
theorem Out.same {x : Addr} {H H1 H2 : Hp} (a : Out x H H1) (s : Same H1 H2) : Out x H H2 := fun b o e n => s _ _ (a b o e n)
theorem Out.put {x : Addr} {o' : HO} {H H1 : Hp} (a : Out x H H1) : Out x H (upd H1 x o') := fun b o e n => by
  rw [upd_ne n]
  exact a b o e n
theorem put_len {f : Str} {v : V} {fs : List (Str × V)} {n : Nat} (h : fs.length ≤ n) : (putF f v fs).length ≤ n + 1 := Nat.le_trans (length_putF f v fs) (Nat.succ_le_succ h)
section
variable {P : Program} {w : World} {K : PySem.W.Frag} {mg : Str → Option Value} {base : Heap}
def Rows10 (ls : List (List Nat)) : Prop := ∀ l ∈ ls, (10 : Nat) ∉ l
def sp_kept_lines : Sp := fun vs H Q _ => ∃ (x : Str) (init : List (List Nat)) (last : List Nat), vs = [.str x] ∧ tl x = joinL [10] (init ++ [last]) ∧ Rows10 (init ++ [last]) ∧ x.length ≤ 10000 ∧
  ∀ (H' : Hp) (p : Addr), Same H H' → H p = none → H' p = some (rowsV (keptOf init last)) → Q (.ref p) H'
theorem ok_kept_lines {f : Addr} {fd : FuncData} {dvs : List V} (F : Fn K "kept_lines" s_kept_lines dvs f fd) : FnOk P w K mg base CX0 1 f fd ["text"] (sp_kept_lines) := by
  refine Fn.okN F sc_kept_lines (fun vs H Q E h => ?_) (fun cdv A outer s H vs Q E hr h => ?_)
  · obtain ⟨_, _, _, rfl, _⟩ := h
    rfl
  · obtain ⟨x, init, last, rfl, ex, h10, hx, k⟩ := h
    refine ⟨_, (pss_cons (ps_asg (pe_m1 PySem.F.slot_str_split PySem.F.type_str_split mt_split (pv 0) pe_str) (pg_star rfl (pgs_cons (pg_name (i := 1) sc_kept_lines.nd rfl (.inl rfl)) (pgs_cons (pg_name (i := 2) sc_kept_lines.nd rfl (.inl rfl)) pgs_nil))))
      (pss_cons (ps_setLc (i := 3) (own := [("line", 4)]) (g := gName 4) (tt := tYes) (by rfl) sc_kept_lines.nd rfl rfl (sw_true rfl rfl rfl (by decide +kernel)) (pi_list (pv 1)) (blkOk_by (own := [("line", 4)]) (N := ["text", "lines", "rest", "kept", "line"]) (sc := defScope s_kept_lines) (by decide +kernel)) (fun _ _ _ _ _ => (pg_name (i := 4) sc_kept_lines.nd rfl (.inl rfl))) (fun _ _ _ _ _ => pts_nil) (fun _ _ _ _ _ => (pe_op op_add_str (pv 4) pe_str)))
      (pss_one (ps_ret (pe_ifExp (pt_tr (K' := K) (pv 2)) (pe_op op_cat (pv 3) (pe_lst (pa_cons (pv 2) pa_nil))) (pv 3)))))), ?_⟩
    have lt : (tl x).length ≤ 10000 := by rw [← len_tl]; exact hx
    have jp := join_parts (init ++ [last])
    rw [← ex, List.length_append] at jp
    have l1 : ("\n" : Str).length = 1 := rfl
    have hil : ∀ l ∈ init, l.length ≤ 10000 := fun l hl => Nat.le_trans (jp.2 l (List.mem_append_left _ hl)) lt
    have hin : init.length ≤ 10001 := by omega
    refine ⟨.str x, rfl, ⟨_, rfl⟩, x, "\n", rfl, rfl, by decide +kernel, line_of (by omega), fun p np => ?_⟩
    rw [split_join ex (by simp) h10]
    have sp := same_new (o := .lst (((init ++ [last]).map mk).map V.str)) np
    refine ⟨p, (init.map mk).map V.str, .str (mk last), rfl, SqL.of ?_, by rw [List.length_map, List.length_map]; omega, fun D nD => ⟨.ref D, _, rfl, .str (mk last), _, rfl, rfl, ?_⟩⟩
    · rw [upd_same, List.map_append, List.map_append]
      rfl
    have sD := same_new (o := .lst ((init.map mk).map V.str)) nD
    have eD : (upd (upd H p (.lst (((init ++ [last]).map mk).map V.str))) D (.lst ((init.map mk).map V.str))) D = some (.lst ((init.map mk).map V.str)) := upd_same
    generalize upd (upd H p (.lst (((init ++ [last]).map mk).map V.str))) D (.lst ((init.map mk).map V.str)) = H1 at sD eD ⊢
    have s1 : Same H H1 := sp.trans sD
    refine ⟨.ref D, rfl, D, rfl, ⟨_, SqL.of eD⟩, fun L nL => lc_list (K := K) (a := D) (xs := (init.map mk).map V.str) (fun i H2 => H2 L = some (rowsV ((init.take i).map (· ++ [10]))) ∧ Same H1 H2) ⟨upd_same, same_new nL⟩ (fun i H2 _ h => SqL.of (h.2 _ _ eD)) ?_ ?_⟩
    · rintro i v H2 hv ⟨eL, s2⟩
      obtain ⟨z, rfl, hz⟩ := str_at hv
      rw [List.getElem?_map] at hz
      obtain ⟨l, hl, rfl⟩ := Option.map_eq_some_iff.mp hz
      have gl := hil l (List.mem_of_getElem? hl)
      have hi : i < init.length := (List.getElem?_eq_some_iff.mp hl).1
      refine ⟨rfl, ?_⟩
      unfold tYes
      show ite (true = true) _ _
      rw [if_pos rfl]
      refine ⟨.str (mk l), rfl, _, _, rfl, rfl, line_of (by rw [mk_len, l1]; omega), _, eL, ?_, ?_, fun b o e => ?_⟩
      · rw [List.length_map, List.length_map, List.length_map, List.length_take]
        exact Nat.lt_of_le_of_lt (show min i init.length ≤ 10001 by omega) (by decide)
      · rw [upd_same, List.take_add_one, hl, List.map_append]
        unfold rowsV
        rw [List.map_append, List.map_append]
        exact congrArg (fun v => some (HO.lst ((((init.take i).map (· ++ [10])).map mk).map V.str ++ [v]))) (congrArg V.str (ext_tl (by rw [tl_append]; rfl)))
      · rw [upd_ne (ne_of_none e nL)]
        exact s2 b o e
    rintro H2 ⟨eL, s2⟩
    rw [List.length_map, List.length_map, List.take_length] at eL
    have nL0 : H L = none := s1.free nL
    refine ⟨.str (mk last), rfl, _, ⟨line_of (show (mk last).length ≤ 1000000 by rw [mk_len]; exact Nat.le_trans (jp.2 last (List.mem_append_right _ (List.mem_singleton.mpr rfl))) (by omega)), rfl⟩, ?_⟩
    unfold keptOf ifAny at k
    cases last with
    | nil =>
      refine iteF ⟨.ref L, rfl, k _ L (s1.trans s2) nL0 ?_⟩
      show H2 L = some (rowsV (init.map (· ++ [10]) ++ []))
      rw [List.append_nil]
      exact eL
    | cons c r =>
      rw [show (((mk (c :: r)).length : Int) != 0) = true by rw [mk_len, bne_iff_ne, List.length_cons]; omega]
      refine iteT ⟨.ref L, rfl, .str (mk (c :: r)), rfl, by show 1 ≤ sizeLine; decide, fun M nM => ⟨L, M, _, _, rfl, rfl, same_new nM _ _ eL, upd_same, ?_, fun q nq => ?_⟩⟩
      · rw [List.length_map, List.length_map, List.length_map]
        exact Nat.le_trans (show init.length + 1 ≤ 10002 by omega) (by decide)
      · refine k _ q (s1.trans (s2.trans ((same_new nM).trans (same_new nq)))) ((s1.trans (s2.trans (same_new nM))).free nq) ?_
        rw [upd_same]
        unfold rowsV
        rw [List.map_append, List.map_append]
        rfl
def sp_lines_of : Sp := fun vs H Q _ => ∃ (x : Str) (init : List (List Nat)) (last : List Nat), vs = [.str x] ∧ tl x = joinL [10] (init ++ [last]) ∧ Rows10 (init ++ [last]) ∧ x.length ≤ 10000 ∧
  ∀ (H' : Hp) (p : Addr), Same H H' → H p = none → H' p = some (rowsV (rowsOf init last)) → Q (.ref p) H'
theorem ok_lines_of {f : Addr} {fd : FuncData} {dvs : List V} (F : Fn K "lines_of" s_lines_of dvs f fd) (O_kept_lines : Own P w K mg base "kept_lines" 1 ["text"] [] (sp_kept_lines)) : FnOk P w K mg base CX0 2 f fd ["text"] (sp_lines_of) := by
  refine Fn.okN F sc_lines_of (fun vs H Q E h => ?_) (fun cdv A outer s H vs Q E hr h => ?_)
  · obtain ⟨_, _, _, rfl, _⟩ := h
    rfl
  · obtain ⟨x, init, last, rfl, ex, h10, hx, k⟩ := h
    refine ⟨_, (pss_one (ps_ret (pe_lc (own := [("line", 1)]) (g := gName 1) (tt := tYes) (by rfl) sc_lines_of.nd (pi_list (pe_own O_kept_lines (hr.mono (by decide)) (by rfl) (pa_cons (pv 0) pa_nil))) (blkOk_by (own := [("line", 1)]) (N := ["text", "line"]) (sc := defScope s_lines_of) (by decide +kernel)) (fun _ _ _ _ _ => (pg_name (i := 1) sc_lines_of.nd rfl (.inl rfl))) (fun _ _ _ _ _ => pts_nil) (fun _ _ _ _ _ => (pe_m1 PySem.F.slot_str_removesuffix PySem.F.type_str_removesuffix mt_removesuffix (pv 1) pe_str))))), ?_⟩
    have lt : (tl x).length ≤ 10000 := by rw [← len_tl]; exact hx
    have jp := join_parts (init ++ [last])
    rw [← ex, List.length_append] at jp
    have kb : ∀ l ∈ keptOf init last, l.length ≤ 10001 := fun l hl => by
      rcases List.mem_append.mp hl with h | h
      · obtain ⟨l', h', rfl⟩ := List.mem_map.mp h
        have := jp.2 l' (List.mem_append_left _ h')
        rw [List.length_append]
        show _ + 1 ≤ _
        omega
      · have : l = last := by
          unfold ifAny at h
          split at h
          · cases h
          · exact List.mem_singleton.mp h
        have := jp.2 last (List.mem_append_right _ (List.mem_singleton.mpr rfl))
        rw [‹l = last›]
        omega
    have kn : (keptOf init last).length ≤ 10002 := by
      unfold keptOf ifAny
      rw [List.length_append, List.length_map]
      split
      · show _ + 0 ≤ _
        omega
      · show _ + 1 ≤ _
        omega
    have kr : (keptOf init last).map noNl = rowsOf init last := by
      unfold keptOf rowsOf
      rw [List.map_append, List.map_map]
      congr 1
      · refine (List.map_congr_left fun l hl => ?_).trans (List.map_id _)
        exact noNl_fed l
      · unfold ifAny
        split
        · rfl
        · show [noNl last] = [last]
          rw [noNl_free (h10 last (List.mem_append_right _ (List.mem_singleton.mpr rfl)))]
    refine ⟨.str x, rfl, x, init, last, rfl, ex, h10, hx, fun H1 p s1 np ep => ⟨p, rfl, ⟨_, SqL.of ep⟩, fun L nL => ?_⟩⟩
    rw [← kr] at k
    generalize keptOf init last = ks at ep kb kn k
    refine lc_list (K := K) (a := p) (xs := (ks.map mk).map V.str) (fun i H2 => H2 L = some (rowsV ((ks.take i).map noNl)) ∧ Same H1 H2) ⟨upd_same, same_new nL⟩ (fun i H2 _ h => SqL.of (h.2 _ _ ep)) ?_ ?_
    · rintro i v H2 hv ⟨eL, s2⟩
      obtain ⟨z, rfl, hz⟩ := str_at hv
      rw [List.getElem?_map] at hz
      obtain ⟨l, hl, rfl⟩ := Option.map_eq_some_iff.mp hz
      have gl := kb l (List.mem_of_getElem? hl)
      have hi : i < ks.length := (List.getElem?_eq_some_iff.mp hl).1
      refine ⟨rfl, ?_⟩
      unfold tYes
      show ite (true = true) _ _
      rw [if_pos rfl]
      refine ⟨.str (mk l), rfl, ⟨_, rfl⟩, mk l, "\n", rfl, rfl, by rw [mk_len]; exact line_of (by omega), _, eL, ?_, ?_, fun b o e => ?_⟩
      · rw [List.length_map, List.length_map, List.length_map, List.length_take]
        exact Nat.lt_of_le_of_lt (show min i ks.length ≤ 10002 by omega) (by decide)
      · rw [upd_same, List.take_add_one, hl, List.map_append]
        unfold rowsV
        rw [List.map_append, List.map_append]
        rfl
      · rw [upd_ne (ne_of_none e nL)]
        exact s2 b o e
    rintro H2 ⟨eL, s2⟩
    rw [List.length_map, List.length_map, List.take_length] at eL
    exact k _ L (s1.trans s2) (s1.free nL) eL
/-- a text with a line feed behind it -/
def fedS (x : Str) : Str := if Txt.endswith x "\n" = true then x else x ++ "\n"
theorem fedS_of {x : Str} (h : Txt.endswith x "\n" = true) : fedS x = x := if_pos h
def wantS (x : Str) : Str := if ((x.length : Int) != 0) = true then fedS x else x
theorem wantS_of {x : Str} (h : x = "" ∨ Txt.endswith x "\n" = true) : wantS x = x := by
  unfold wantS
  split
  · rename_i hx
    rcases h with e | e
    · rw [e] at hx
      exact absurd hx (by decide +kernel)
    · exact fedS_of e
  · rfl
def errS : V → V
  | .str x => .str (fedS x)
  | v => v
theorem errS_of {er : V} (h : er = .non ∨ ∃ e : Str, er = .str e ∧ Txt.endswith e "\n" = true) : errS er = er := by
  rcases h with rfl | ⟨e, rfl, h⟩
  · rfl
  · exact congrArg V.str (fedS_of h)
def sp_fed : Sp := fun vs H Q _ => ∃ x : Str, vs = [.str x] ∧ x.length ≤ 100000 ∧ Q (.str (fedS x)) H
theorem ok_fed {f : Addr} {fd : FuncData} {dvs : List V} (F : Fn K "fed" s_fed dvs f fd) : FnOk P w K mg base CX0 1 f fd ["text"] (sp_fed) := by
  refine Fn.okN F sc_fed (fun vs H Q E h => ?_) (fun cdv A outer s H vs Q E hr h => ?_)
  · obtain ⟨_, rfl, _⟩ := h
    rfl
  · obtain ⟨x, rfl, hx, k⟩ := h
    refine ⟨_, (pss_one (ps_ret (pe_ifExp (pt_val (pe_m1 PySem.F.slot_str_endswith PySem.F.type_str_endswith mt_endswith (pv 0) pe_str)) (pv 0) (pe_op op_add_str (pv 0) pe_str)))), ?_⟩
    have l1 : ("\n" : Str).length = 1 := rfl
    refine ⟨_, rfl, ⟨_, rfl⟩, x, "\n", rfl, rfl, _, rfl, ?_⟩
    unfold fedS at k
    cases h : Txt.endswith x "\n" with
    | true =>
      rw [h, if_pos rfl] at k
      exact iteT ⟨_, rfl, k⟩
    | false =>
      rw [h, if_neg Bool.false_ne_true] at k
      exact iteF ⟨.str x, rfl, x, "\n", rfl, rfl, by rw [l1]; exact line_of (by omega), k⟩
def sp_words_of : Sp := fun vs H Q _ => vs = [.str ""] ∧ ∀ (H' : Hp) (p : Addr), Same H H' → H p = none → H' p = some (.lst []) → Q (.ref p) H'
theorem ok_words_of {f : Addr} {fd : FuncData} {dvs : List V} (F : Fn K "words_of" s_words_of dvs f fd) : FnOk P w K mg base CX0 1 f fd ["text"] (sp_words_of) := by
  refine Fn.okN F sc_words_of (fun vs H Q E h => ?_) (fun cdv A outer s H vs Q E hr h => ?_)
  · obtain ⟨rfl, _⟩ := h
    rfl
  · obtain ⟨rfl, k⟩ := h
    refine ⟨_, (pss_cons (ps_set (i := 1) sc_words_of.nd rfl (.inl rfl) (pe_replN (pe_replN (pv 0))))
      (pss_one (ps_ret (pe_lc (own := [("word", 2)]) (g := gName 2) (by rfl) sc_words_of.nd (pi_list (pe_m1 PySem.F.slot_str_split PySem.F.type_str_split mt_split (pv 1) pe_str)) (blkOk_by (own := [("word", 2)]) (N := ["text", "spaced", "word"]) (sc := defScope s_words_of) (by decide +kernel)) (fun _ _ _ _ _ => (pg_name (i := 2) sc_words_of.nd rfl (.inl rfl))) (fun _ _ _ _ _ => (pts_one (pt_tr (K' := K) (pv 2)))) (fun _ _ _ _ _ => (pv 2)))))), ?_⟩
    have o1 : (Builtin.Str.occurrences "" "\t" 0 ("" : Str).length (("" : Str).length + 1)).isEmpty = true := by decide +kernel
    have o2 : (Builtin.Str.occurrences "" "\n" 0 ("" : Str).length (("" : Str).length + 1)).isEmpty = true := by decide +kernel
    have e1 : Txt.split "" " " = [("" : Str)] := by decide +kernel
    refine ⟨_, rfl, "", rfl, o1, "", rfl, o2, .str "", rfl, ⟨_, rfl⟩, "", " ", rfl, rfl, by decide +kernel, by decide, fun p np => ⟨p, rfl, ⟨_, SqL.of upd_same⟩, fun L nL => ?_⟩⟩
    rw [e1] at nL ⊢
    have sp := same_new (o := .lst (([("" : Str)] : List Str).map V.str)) np
    refine lc_list (K := K) (a := p) (xs := ([("" : Str)] : List Str).map V.str) (fun i H2 => H2 L = some (.lst []) ∧ Same (upd H p (.lst (([("" : Str)] : List Str).map V.str))) H2) ⟨upd_same, same_new nL⟩ (fun i H2 _ h => SqL.of (h.2 _ _ upd_same)) ?_ ?_
    · rintro i v H2 hv ⟨eL, s2⟩
      have ev : v = .str "" := by
        have := List.mem_of_getElem? hv
        exact List.mem_singleton.mp this
      subst ev
      refine ⟨rfl, .str "", rfl, _, ⟨by decide, rfl⟩, ?_⟩
      exact iteF ⟨eL, s2⟩
    · rintro H2 ⟨eL, s2⟩
      exact k _ L (sp.trans s2) (sp.free nL) eL
def sp_begins : Sp := fun vs H Q _ => ∃ x y : Str, vs = [.str x, .str y] ∧ x.length ≤ 10000 ∧ Q (.bl (bg x y)) H
theorem ok_begins {f : Addr} {fd : FuncData} {dvs : List V} (F : Fn K "begins" s_begins dvs f fd) : FnOk P w K mg base CX0 1 f fd ["line", "prompt"] (sp_begins) := by
  refine Fn.okN F sc_begins (fun vs H Q E h => ?_) (fun cdv A outer s H vs Q E hr h => ?_)
  · obtain ⟨_, _, rfl, _⟩ := h
    rfl
  · obtain ⟨x, y, rfl, hx, k⟩ := h
    refine ⟨_, (pss_one (ps_ret (pe_m1 PySem.F.slot_str_startswith PySem.F.type_str_startswith mt_startswith (pe_m1 PySem.F.slot_str_lstrip PySem.F.type_str_lstrip mt_lstripChars (pv 0) pe_str) (pv 1)))), ?_⟩
    exact ⟨.str x, rfl, ⟨_, rfl⟩, x, " ", rfl, rfl, line_of (by omega), ⟨_, rfl⟩, .str y, rfl, _, y, rfl, rfl, k⟩
def Short (ws : List (List Nat)) : Prop := ws.length ≤ 10000 ∧ ∀ l ∈ ws, l.length ≤ 10000
/-- where a row of lines ends that all have p, from i on -/
def runL (p : List Nat → Bool) (ws : List (List Nat)) (i : Nat) : Nat := i + ((ws.drop i).takeWhile p).length
theorem runL_ge (p : List Nat → Bool) (ws : List (List Nat)) (i : Nat) : i ≤ runL p ws i := Nat.le_add_right _ _
theorem runL_le {p : List Nat → Bool} {ws : List (List Nat)} {i : Nat} (h : i ≤ ws.length) : runL p ws i ≤ ws.length := by
  have := (List.takeWhile_sublist (l := ws.drop i) p).length_le
  rw [List.length_drop] at this
  unfold runL
  omega
theorem runL_end {p : List Nat → Bool} {ws : List (List Nat)} {i : Nat} (h : ws.length ≤ i) : runL p ws i = i := by
  unfold runL
  rw [List.drop_eq_nil_of_le h]
  rfl
theorem runL_stop {p : List Nat → Bool} {ws : List (List Nat)} {i : Nat} (h : i < ws.length) (hp : p ws[i] = false) : runL p ws i = i := by
  unfold runL
  rw [List.drop_eq_getElem_cons h, List.takeWhile_cons, hp]
  rfl
theorem runL_step {p : List Nat → Bool} {ws : List (List Nat)} {i : Nat} (h : i < ws.length) (hp : p ws[i] = true) : runL p ws i = runL p ws (i + 1) := by
  unfold runL
  rw [List.drop_eq_getElem_cons h, List.takeWhile_cons, hp, if_pos rfl, List.length_cons]
  omega
def pS (l : List Nat) : Bool := bg (mk l) "..."
def pE (l : List Nat) : Bool := !isBlank l && !bg (mk l) ">>>"
def sp_behind_source : Sp := fun vs H Q _ => ∃ (p : Addr) (ws : List (List Nat)) (i : Nat), vs = [.ref p, .int (i : Int)] ∧ H p = some (rowsV ws) ∧ Short ws ∧ Q (.int (runL pS ws i : Nat)) H
theorem ok_behind_source {f : Addr} {fd : FuncData} {dvs : List V} (F : Fn K "behind_source" s_behind_source dvs f fd) (O_begins : Own P w K mg base "begins" 1 ["line", "prompt"] [] (sp_begins)) (m_len : mg "len" = none) {t_FURTHER : Tok} (c_FURTHER : mg "FURTHER" = some (.str "..." t_FURTHER)) : FnOk P w K mg base CX0 2 f fd ["lines", "at"] (sp_behind_source) := by
  refine Fn.okN F sc_behind_source (fun vs H Q E h => ?_) (fun cdv A outer s H vs Q E hr h => ?_)
  · obtain ⟨_, _, _, rfl, _⟩ := h
    rfl
  · obtain ⟨p, ws, i, rfl, hp, hs, k⟩ := h
    refine ⟨_, (pss_cons (ps_while PassesOwn.never (PW.pt (pw_and (pt_cmpR op_lt (pv 1) (pe_callB call_len_seq (by rfl) m_len PySem.boot_len (pa_cons (pv 0) pa_nil)) (nomark _)) (pw_and1 (pt_val (pe_own O_begins (hr.mono (by decide)) (by rfl) (pa_cons (pe_ix ix_list (pv 0) (pv 1) (fun _ _ => rfl)) (pa_cons (pe_glob (v := .str "...") rfl c_FURTHER ⟨_, rfl⟩) pa_nil)))))))
          (pss_one (ps_set (i := 1) sc_behind_source.nd rfl (.inl rfl) (pe_op op_add (pv 1) pe_int))))
      (pss_one (ps_ret (pv 1)))), ?_⟩
    have hlen : ((ws.map mk).map V.str).length = ws.length := by rw [List.length_map, List.length_map]
    refine while_by (fun σ H1 => ∃ j : Nat, σ = [some (.ref p), some (.int (j : Int))] ∧ H = H1 ∧ runL pS ws j = runL pS ws i) (fun σ _ => match σ with | [_, some (.int z)] => (ws.length - z).toNat | _ => 0) ⟨i, rfl, rfl, rfl⟩ ?_ (mo_and (mo_test (mo_op mo_I0 mo_var (mo_cb (fun xs H Q Q' i ⟨p, ys, e1, e2, q⟩ => ⟨p, ys, e1, e2, i _ _ q⟩) (mo_cons mo_var mo_nil)))) (mo_B (mo_call (fun vs H Q Q' E i ⟨x, y, e, l, q⟩ => ⟨x, y, e, l, i _ _ q⟩) (mo_cons (mo_op mo_ix mo_var mo_var) (mo_cons mo_const mo_nil)))))
    rintro σ H1 ⟨j, rfl, rfl, hj⟩
    refine ⟨.int (j : Int), rfl, .ref p, rfl, p, _, rfl, .inl (SqL.of hp), _, _, rfl, rfl, _, rfl, ?_⟩
    rw [hlen]
    rcases Nat.lt_or_ge j ws.length with hi | hi
    · have hg : ((ws.map mk).map V.str)[j]? = some (.str (mk ws[j])) := by
        rw [List.getElem?_map, List.getElem?_map, List.getElem?_eq_getElem hi]
        rfl
      rw [decide_eq_true (by omega)]
      refine iteT ⟨.ref p, rfl, .int (j : Int), rfl, p, _, _, .str (mk ws[j]), rfl, rfl, SqL.of hp, atI_nat hg, mk ws[j], "...", rfl, by rw [mk_len]; exact Nat.le_trans (hs.2 _ (List.getElem_mem _)) (by decide), _, rfl, ?_⟩
      cases hb : bg (mk ws[j]) "..." with
      | false =>
        rw [← hj, runL_stop hi hb] at k
        exact iteF ⟨_, rfl, k⟩
      | true =>
        refine iteT ⟨_, rfl, _, _, rfl, rfl, ⟨j + 1, rfl, rfl, by rw [← hj, runL_step hi hb]⟩, ?_⟩
        show ((ws.length : Int) - ((j : Int) + 1)).toNat < ((ws.length : Int) - (j : Int)).toNat
        omega
    · rw [decide_eq_false (by omega)]
      rw [← hj, runL_end hi] at k
      exact iteF ⟨_, rfl, k⟩
def sp_behind_expected : Sp := fun vs H Q _ => ∃ (p : Addr) (ws : List (List Nat)) (i : Nat), vs = [.ref p, .int (i : Int)] ∧ H p = some (rowsV ws) ∧ Short ws ∧ Q (.int (runL pE ws i : Nat)) H
theorem ok_behind_expected {f : Addr} {fd : FuncData} {dvs : List V} (F : Fn K "behind_expected" s_behind_expected dvs f fd) (O_is_blank : Own P w K mg base "is_blank" 1 ["line"] [] (sp_is_blank)) (O_begins : Own P w K mg base "begins" 1 ["line", "prompt"] [] (sp_begins)) (m_len : mg "len" = none) {t_PROMPT : Tok} (c_PROMPT : mg "PROMPT" = some (.str ">>>" t_PROMPT)) : FnOk P w K mg base CX0 2 f fd ["lines", "at"] (sp_behind_expected) := by
  refine Fn.okN F sc_behind_expected (fun vs H Q E h => ?_) (fun cdv A outer s H vs Q E hr h => ?_)
  · obtain ⟨_, _, _, rfl, _⟩ := h
    rfl
  · obtain ⟨p, ws, i, rfl, hp, hs, k⟩ := h
    refine ⟨_, (pss_cons (ps_while PassesOwn.never (PW.pt (pw_and (pt_cmpR op_lt (pv 1) (pe_callB call_len_seq (by rfl) m_len PySem.boot_len (pa_cons (pv 0) pa_nil)) (nomark _)) (pw_and (pt_not (pt_val (pe_own O_is_blank (hr.mono (by decide)) (by rfl) (pa_cons (pe_ix ix_list (pv 0) (pv 1) (fun _ _ => rfl)) pa_nil)))) (pw_and1 (pt_not (pt_val (pe_own O_begins (hr.mono (by decide)) (by rfl) (pa_cons (pe_ix ix_list (pv 0) (pv 1) (fun _ _ => rfl)) (pa_cons (pe_glob (v := .str ">>>") rfl c_PROMPT ⟨_, rfl⟩) pa_nil)))))))))
          (pss_one (ps_set (i := 1) sc_behind_expected.nd rfl (.inl rfl) (pe_op op_add (pv 1) pe_int))))
      (pss_one (ps_ret (pv 1)))), ?_⟩
    have hlen : ((ws.map mk).map V.str).length = ws.length := by rw [List.length_map, List.length_map]
    refine while_by (fun σ H1 => ∃ j : Nat, σ = [some (.ref p), some (.int (j : Int))] ∧ H = H1 ∧ runL pE ws j = runL pE ws i) (fun σ _ => match σ with | [_, some (.int z)] => (ws.length - z).toNat | _ => 0) ⟨i, rfl, rfl, rfl⟩ ?_ (mo_and (mo_test (mo_op mo_I0 mo_var (mo_cb (fun xs H Q Q' i ⟨p, ys, e1, e2, q⟩ => ⟨p, ys, e1, e2, i _ _ q⟩) (mo_cons mo_var mo_nil)))) (mo_and (mo_not (mo_B (mo_call (fun vs H Q Q' E i ⟨x, e, l, q⟩ => ⟨x, e, l, i _ _ q⟩) (mo_cons (mo_op mo_ix mo_var mo_var) mo_nil)))) (mo_not (mo_B (mo_call (fun vs H Q Q' E i ⟨x, y, e, l, q⟩ => ⟨x, y, e, l, i _ _ q⟩) (mo_cons (mo_op mo_ix mo_var mo_var) (mo_cons mo_const mo_nil)))))))
    rintro σ H1 ⟨j, rfl, rfl, hj⟩
    refine ⟨.int (j : Int), rfl, .ref p, rfl, p, _, rfl, .inl (SqL.of hp), _, _, rfl, rfl, _, rfl, ?_⟩
    rw [hlen]
    rcases Nat.lt_or_ge j ws.length with hi | hi
    · have hg : ((ws.map mk).map V.str)[j]? = some (.str (mk ws[j])) := by
        rw [List.getElem?_map, List.getElem?_map, List.getElem?_eq_getElem hi]
        rfl
      have lm : (mk ws[j]).length ≤ 10000 := by rw [mk_len]; exact hs.2 _ (List.getElem_mem _)
      rw [decide_eq_true (by omega)]
      refine iteT ⟨.ref p, rfl, .int (j : Int), rfl, p, _, _, .str (mk ws[j]), rfl, rfl, SqL.of hp, atI_nat hg, mk ws[j], rfl, by omega, _, rfl, ?_⟩
      show ite ((!isBlank ws[j]) = true) _ _
      cases hb : isBlank ws[j] with
      | true =>
        rw [← hj, runL_stop hi (by unfold pE; rw [hb]; rfl)] at k
        exact iteF (iteF ⟨_, rfl, k⟩)
      | false =>
        refine iteT ⟨.ref p, rfl, .int (j : Int), rfl, p, _, _, .str (mk ws[j]), rfl, rfl, SqL.of hp, atI_nat hg, mk ws[j], ">>>", rfl, by omega, _, rfl, ?_⟩
        cases hc : bg (mk ws[j]) ">>>" with
        | true =>
          rw [← hj, runL_stop hi (by unfold pE; rw [hc, Bool.and_comm]; rfl)] at k
          exact iteF ⟨_, rfl, k⟩
        | false =>
          refine iteT ⟨_, rfl, _, _, rfl, rfl, ⟨j + 1, rfl, rfl, by rw [← hj, runL_step hi (by unfold pE; rw [hb, hc]; rfl)]⟩, ?_⟩
          show ((ws.length : Int) - ((j : Int) + 1)).toNat < ((ws.length : Int) - (j : Int)).toNat
          omega
    · rw [decide_eq_false (by omega)]
      rw [← hj, runL_end hi] at k
      exact iteF (iteF ⟨_, rfl, k⟩)
/-- the cuts of lines, from a place on -/
def cutsL (ws : List (List Nat)) (i : Nat) : List (Nat × Nat × Nat) :=
  if h : i < ws.length then
    if bg (mk ws[i]) ">>>" = true then (i, runL pS ws (i + 1), runL pE ws (runL pS ws (i + 1))) :: cutsL ws (runL pE ws (runL pS ws (i + 1)))
    else cutsL ws (i + 1)
  else []
termination_by ws.length - i
decreasing_by
  · have h1 := runL_ge pS ws (i + 1)
    have h2 := runL_ge pE ws (runL pS ws (i + 1))
    omega
  · omega
theorem cutsL_len (ws : List (List Nat)) : ∀ (f i : Nat), ws.length - i ≤ f → (cutsL ws i).length ≤ ws.length - i
  | 0, i, h => by
    rw [cutsL, dif_neg (by omega)]
    exact Nat.zero_le _
  | f + 1, i, h => by
    rw [cutsL]
    split
    · split
      · have h1 := runL_ge pS ws (i + 1)
        have h2 := runL_ge pE ws (runL pS ws (i + 1))
        have ih := cutsL_len ws f (runL pE ws (runL pS ws (i + 1))) (by omega)
        rw [List.length_cons]
        omega
      · have ih := cutsL_len ws f (i + 1) (by omega)
        omega
    · exact Nat.zero_le _
def cutV3 (c : Nat × Nat × Nat) : HO := .tup [.int (c.1 : Int), .int (c.2.1 : Int), .int (c.2.2 : Int)]
/-- triples that stand at addresses -/
def CutsAt (H : Hp) : List Addr → List (Nat × Nat × Nat) → Prop
  | [], [] => True
  | t :: ts, c :: cs => H t = some (cutV3 c) ∧ CutsAt H ts cs
  | _, _ => False
theorem CutsAt.same {H H' : Hp} (s : Same H H') : ∀ {ts : List Addr} {cs : List (Nat × Nat × Nat)}, CutsAt H ts cs → CutsAt H' ts cs
  | [], [], _ => trivial
  | _ :: _, _ :: _, h => ⟨s _ _ h.1, CutsAt.same s h.2⟩
  | [], _ :: _, h => h
  | _ :: _, [], h => h
theorem CutsAt.upd {H : Hp} {C : Addr} {xs : List V} {o : HO} (e : H C = some (.lst xs)) : ∀ {ts : List Addr} {cs : List (Nat × Nat × Nat)}, CutsAt H ts cs → CutsAt (L2.upd H C o) ts cs
  | [], [], _ => trivial
  | t :: _, _ :: _, h => ⟨by
    have h1 : H t = some (cutV3 _) := h.1
    rw [upd_ne (fun z => by rw [z, e] at h1; cases h1)]
    exact h.1, CutsAt.upd e h.2⟩
  | [], _ :: _, h => h
  | _ :: _, [], h => h
theorem CutsAt.snoc {H : Hp} {t : Addr} {c : Nat × Nat × Nat} (e : H t = some (cutV3 c)) : ∀ {ts : List Addr} {cs : List (Nat × Nat × Nat)}, CutsAt H ts cs → CutsAt H (ts ++ [t]) (cs ++ [c])
  | [], [], _ => ⟨e, trivial⟩
  | _ :: _, _ :: _, h => ⟨h.1, CutsAt.snoc e h.2⟩
  | [], _ :: _, h => h.elim
  | _ :: _, [], h => h.elim
theorem CutsAt.get {H : Hp} : ∀ {ts : List Addr} {cs : List (Nat × Nat × Nat)} {i : Nat} {t : Addr}, CutsAt H ts cs → ts[i]? = some t → ∃ c, cs[i]? = some c ∧ H t = some (cutV3 c)
  | [], _, i, t, _, h => by cases h
  | _ :: _, [], _, _, h, _ => h.elim
  | a :: ts, c :: cs, 0, t, h, e => by
    cases e
    exact ⟨c, rfl, h.1⟩
  | a :: ts, c :: cs, i + 1, t, h, e => by
    obtain ⟨d, h1, h2⟩ := CutsAt.get (i := i) h.2 e
    exact ⟨d, h1, h2⟩
theorem CutsAt.len {H : Hp} : ∀ {ts : List Addr} {cs : List (Nat × Nat × Nat)}, CutsAt H ts cs → ts.length = cs.length
  | [], [], _ => rfl
  | _ :: _, _ :: _, h => congrArg Nat.succ (CutsAt.len h.2)
  | [], _ :: _, h => h.elim
  | _ :: _, [], h => h.elim
def sp_cuts_of : Sp := fun vs H Q _ => ∃ (p : Addr) (ws : List (List Nat)), vs = [.ref p] ∧ H p = some (rowsV ws) ∧ Short ws ∧
  ∀ (H' : Hp) (q : Addr) (ts : List Addr), Same H H' → H q = none → H' q = some (.lst (ts.map V.ref)) → CutsAt H' ts (cutsL ws 0) → Q (.ref q) H'
theorem ok_cuts_of {f : Addr} {fd : FuncData} {dvs : List V} (F : Fn K "cuts_of" s_cuts_of dvs f fd) (O_begins : Own P w K mg base "begins" 1 ["line", "prompt"] [] (sp_begins)) (O_behind_source : Own P w K mg base "behind_source" 2 ["lines", "at"] [] (sp_behind_source)) (O_behind_expected : Own P w K mg base "behind_expected" 2 ["lines", "at"] [] (sp_behind_expected)) (m_len : mg "len" = none) {t_PROMPT : Tok} (c_PROMPT : mg "PROMPT" = some (.str ">>>" t_PROMPT)) : FnOk P w K mg base CX0 3 f fd ["lines"] (sp_cuts_of) := by
  refine Fn.okN F sc_cuts_of (fun vs H Q E h => ?_) (fun cdv A outer s H vs Q E hr h => ?_)
  · obtain ⟨_, _, rfl, _⟩ := h
    rfl
  · obtain ⟨p, ws, rfl, hp, hs, k⟩ := h
    refine ⟨_, (pss_cons (ps_set (i := 1) sc_cuts_of.nd rfl (.inl rfl) (pe_lst pa_nil))
      (pss_cons (ps_set (i := 2) sc_cuts_of.nd rfl (.inl rfl) pe_int)
      (pss_cons (ps_while PassesOwn.never (pt_cmpR op_lt (pv 2) (pe_callB call_len_seq (by rfl) m_len PySem.boot_len (pa_cons (pv 0) pa_nil)) (nomark _))
          (pss_one (ps_if (pt_val (pe_own O_begins (hr.mono (by decide)) (by rfl) (pa_cons (pe_ix ix_list (pv 0) (pv 2) (fun _ _ => rfl)) (pa_cons (pe_glob (v := .str ">>>") rfl c_PROMPT ⟨_, rfl⟩) pa_nil))))
                (pss_cons (ps_set (i := 3) sc_cuts_of.nd rfl (.inl rfl) (pe_own O_behind_source (hr.mono (by decide)) (by rfl) (pa_cons (pv 0) (pa_cons (pe_op op_add (pv 2) pe_int) pa_nil))))
                  (pss_cons (ps_set (i := 4) sc_cuts_of.nd rfl (.inl rfl) (pe_own O_behind_expected (hr.mono (by decide)) (by rfl) (pa_cons (pv 0) (pa_cons (pv 3) pa_nil))))
                  (pss_cons (ps_expr (pe_bm PySem.F.plainAttrs_list PySem.F.slot_list_append PySem.F.type_list_append mt_append (pv 1) (pa_cons (pe_tup (pa_cons (pv 2) (pa_cons (pv 3) (pa_cons (pv 4) pa_nil)))) pa_nil)))
                  (pss_one (ps_set (i := 2) sc_cuts_of.nd rfl (.inl rfl) (pv 4))))))
                (pss_one (ps_set (i := 2) sc_cuts_of.nd rfl (.inl rfl) (pe_op op_add (pv 2) pe_int))))))
      (pss_one (ps_ret (pv 1)))))), ?_⟩
    have hlen : ((ws.map mk).map V.str).length = ws.length := by rw [List.length_map, List.length_map]
    refine ⟨by show 0 ≤ sizeLine; decide, fun C nC => ?_⟩
    have sC := same_new (o := .lst []) nC
    have pC : p ≠ C := ne_of_none hp nC
    refine while_by (fun σ H1 => ∃ (i : Nat) (v3 v4 : Option V) (ts : List Addr) (cs : List (Nat × Nat × Nat)), σ = [some (.ref p), some (.ref C), some (.int (i : Int)), v3, v4] ∧ Same H H1 ∧ H1 C = some (.lst (ts.map V.ref)) ∧ CutsAt H1 ts cs ∧ cs ++ cutsL ws i = cutsL ws 0 ∧ cs.length ≤ i)
      (fun σ _ => match σ with | [_, _, some (.int z), _, _] => (ws.length - z).toNat | _ => 0) ⟨0, _, _, [], [], rfl, sC, upd_same, trivial, rfl, Nat.le_refl _⟩ ?_ (mo_test (mo_op mo_I0 mo_var (mo_cb (fun xs H Q Q' i ⟨p, ys, e1, e2, q⟩ => ⟨p, ys, e1, e2, i _ _ q⟩) (mo_cons mo_var mo_nil))))
    rintro σ H1 ⟨i, v3, v4, ts, cs, rfl, s1, eC, hc, he, hcl⟩
    have hp1 := s1 _ _ hp
    refine ⟨.int (i : Int), rfl, .ref p, rfl, p, _, rfl, .inl (SqL.of hp1), _, _, rfl, rfl, _, rfl, ?_⟩
    rw [hlen]
    rcases Nat.lt_or_ge i ws.length with hi | hi
    · have hg : ((ws.map mk).map V.str)[i]? = some (.str (mk ws[i])) := by
        rw [List.getElem?_map, List.getElem?_map, List.getElem?_eq_getElem hi]
        rfl
      rw [decide_eq_true (by omega)]
      refine iteT ⟨.ref p, rfl, .int (i : Int), rfl, p, _, _, .str (mk ws[i]), rfl, rfl, SqL.of hp1, atI_nat hg, mk ws[i], ">>>", rfl, by rw [mk_len]; exact Nat.le_trans (hs.2 _ (List.getElem_mem _)) (by decide), _, rfl, ?_⟩
      cases hb : bg (mk ws[i]) ">>>" with
      | true =>
        have h1 := runL_ge pS ws (i + 1)
        have h2 := runL_ge pE ws (runL pS ws (i + 1))
        have hu : cutsL ws i = (i, runL pS ws (i + 1), runL pE ws (runL pS ws (i + 1))) :: cutsL ws (runL pE ws (runL pS ws (i + 1))) := by
          rw [cutsL, dif_pos hi, if_pos hb]
        have h3 : runL pE ws (runL pS ws (i + 1)) ≤ ws.length := runL_le (runL_le hi)
        refine iteT ⟨.ref p, rfl, .int (i : Int), rfl, _, _, rfl, rfl, p, ws, i + 1, rfl, hp1, hs, ?_⟩
        generalize runL pS ws (i + 1) = m at h1 h2 hu h3 ⊢
        refine ⟨.ref p, rfl, .int (m : Int), rfl, p, ws, m, rfl, hp1, hs, ?_⟩
        generalize runL pE ws m = e at h2 hu h3 ⊢
        refine ⟨.ref C, rfl, .inl ⟨rfl, _, SqL.of eC⟩, .int (i : Int), rfl, .int (m : Int), rfl, .int (e : Int), rfl, by show 3 ≤ sizeLine; decide, fun T nT => ?_⟩
        have sT := same_new (o := .tup [.int (i : Int), .int (m : Int), .int (e : Int)]) nT
        have CT : C ≠ T := ne_of_none eC nT
        refine ⟨C, ts.map V.ref, _, rfl, rfl, sT _ _ eC, ?_, _, rfl, ⟨e, _, _, ts ++ [T], cs ++ [(i, m, e)], rfl, fun b o eb => ?_, ?_, ?_, by rw [List.append_assoc]; show cs ++ (i, m, e) :: cutsL ws e = _; rw [← hu]; exact he, by rw [List.length_append]; show cs.length + 1 ≤ _; omega⟩, ?_⟩
        · rw [List.length_map, hc.len]
          exact Nat.lt_of_le_of_lt (show cs.length ≤ 10000 by have := hs.1; omega) (by decide)
        · rw [upd_ne (ne_of_none eb nC)]
          exact sT _ _ (s1 _ _ eb)
        · rw [upd_same, List.map_append]
          rfl
        · refine CutsAt.upd (sT _ _ eC) ?_
          exact CutsAt.snoc (c := (i, m, e)) upd_same (hc.same sT)
        · show ((ws.length : Int) - (e : Int)).toNat < ((ws.length : Int) - (i : Int)).toNat
          omega
      | false =>
        have hu : cutsL ws i = cutsL ws (i + 1) := by
          rw [cutsL, dif_pos hi, if_neg (by rw [hb]; decide)]
        refine iteF ⟨_, rfl, _, _, rfl, rfl, ⟨i + 1, _, _, ts, cs, rfl, s1, eC, hc, by rw [← hu]; exact he, by omega⟩, ?_⟩
        show ((ws.length : Int) - ((i : Int) + 1)).toNat < ((ws.length : Int) - (i : Int)).toNat
        omega
    · rw [decide_eq_false (by omega)]
      have hu : cutsL ws i = [] := by
        rw [cutsL, dif_neg (by omega)]
      rw [hu, List.append_nil] at he
      rw [he] at hc
      exact iteF ⟨.ref C, rfl, k _ C ts s1 nC eC hc⟩
def sp_refuse_wrong_indents : Sp := fun vs H Q _ => ∃ (p : Addr) (ws : List (List Nat)) (a b : Nat) (y : Str), vs = [.ref p, .int (a : Int), .int (b : Int), .str y] ∧ H p = some (rowsV ws) ∧ a ≤ 100000 ∧ b ≤ ws.length ∧ Short ws ∧ (∀ j l, a ≤ j → j < b → ws[j]? = some l → Txt.startswith (mk l) y = true) ∧ Q .non H
theorem ok_refuse_wrong_indents {f : Addr} {fd : FuncData} {dvs : List V} (F : Fn K "refuse_wrong_indents" s_refuse_wrong_indents dvs f fd) (m_range : mg "range" = none) : FnOk P w K mg base CX0 1 f fd ["lines", "start", "end", "ahead"] (sp_refuse_wrong_indents) := by
  refine Fn.okN F sc_refuse_wrong_indents (fun vs H Q E h => ?_) (fun cdv A outer s H vs Q E hr h => ?_)
  · obtain ⟨_, _, _, _, _, rfl, _⟩ := h
    rfl
  · obtain ⟨p, ws, a, b, y, rfl, hp, ha, hb, hs, hy, k⟩ := h
    refine ⟨_, (pss_one (ps_for PassesOwn.never rfl (pi_range2 rfl m_range (pa_cons (pv 1) (pa_cons (pv 2) pa_nil))) (pg_name (i := 4) sc_refuse_wrong_indents.nd rfl (.inl rfl))
          (pss_one (ps_if (pt_not (pt_val (pe_m1 PySem.F.slot_str_startswith PySem.F.type_str_startswith mt_startswith (pe_ix ix_list (pv 0) (pv 4) (fun _ _ => rfl)) (pv 3))))
                (pss_one ps_never)
                pss_nil)))), ?_⟩
    have h1 := hs.1
    refine ⟨.int (a : Int), rfl, .int (b : Int), rfl, a, b, rfl, ⟨by omega, by omega, by omega, by omega⟩, for_range (lo := (a : Int)) (n := ((b : Int) - (a : Int)).toNat) (fun i σ H1 => ∃ v4, σ = [some (.ref p), some (.int (a : Int)), some (.int (b : Int)), some (.str y), v4] ∧ H1 = H) ⟨_, rfl, rfl⟩ ?_ ?_⟩
    · rintro i σ H1 hi ⟨v4, rfl, rfl⟩
      have hj : a + i < ws.length := by omega
      refine ⟨.ref p, rfl, .int ((a : Int) + (i : Nat)), rfl, p, _, _, .str (mk ws[a + i]), rfl, rfl, SqL.of hp, ?_, ⟨_, rfl⟩, .str y, rfl, mk ws[a + i], y, rfl, rfl, _, rfl, ?_⟩
      · rw [show ((a : Int) + (i : Nat)) = ((a + i : Nat) : Int) by omega]
        exact atI_nat (by rw [List.getElem?_map, List.getElem?_map, List.getElem?_eq_getElem hj]; rfl)
      · rw [hy (a + i) ws[a + i] (by omega) (by omega) (List.getElem?_eq_getElem hj)]
        exact iteF ⟨_, rfl, rfl⟩
    · rintro σ H1 ⟨v4, rfl, rfl⟩
      exact k
theorem mulOk_sp {n : Nat} (h : n ≤ 10000) : MulOk " " (n : Int) := by
  have l1 : (" " : Str).length = 1 := rfl
  refine ⟨?_, fun h1 _ => ?_, fun h1 _ => ?_⟩
  · rw [decide_eq_false (by omega), decide_eq_false (by omega)]
    rfl
  · rw [l1]
    have h2 : (0 : Int) < (n : Int) := by omega
    have h3 : ((1 : Nat) : Int) ≤ (2 ^ 63 - 1) / (n : Int) := (Int.le_ediv_iff_mul_le h2).mpr (by omega)
    omega
  · rw [l1]
    unfold Builtin.Str.tooLong
    have hz : (10000 : Nat) < sizeLine := by decide
    rw [decide_eq_false (by omega)]
theorem mul_len (n : Nat) : (Txt.mul " " (n : Int)).length ≤ n + 1 := by
  have e := PyProof.Rows.len_mul " " (n : Int)
  have l1 : ((" " : Str).length : Int) = 1 := rfl
  rw [decide_eq_false (by omega), if_neg Bool.false_ne_true, l1] at e
  omega
/-- a cut at which no line is wrong -/
structure RightCut (ws : List (List Nat)) (a m e : Nat) : Prop where
  am : a < m
  me : m ≤ e
  ew : e ≤ ws.length
  bl : ∀ j l, a ≤ j → j < m → ws[j]? = some l → inV (.str (cutS (mk l) (some ((lead (ws[a]'(by omega)) : Int) + (3 : Int))) (some ((lead (ws[a]'(by omega)) : Int) + (3 : Int) + 1)))) [.str "", .str " "] = true
  src : ∀ j l, a + 1 ≤ j → j < m → ws[j]? = some l → Txt.startswith (mk l) (Txt.mul " " (lead (ws[a]'(by omega)) : Int) ++ ".") = true
  wnt : ∀ j l, m ≤ j → j < e → ws[j]? = some l → Txt.startswith (mk l) (Txt.mul " " (lead (ws[a]'(by omega)) : Int)) = true
def sp_refuse_wrong_lines : Sp := fun vs H Q _ => ∃ (p t : Addr) (ws : List (List Nat)) (a m e : Nat), vs = [.ref p, .ref t] ∧ H p = some (rowsV ws) ∧ H t = some (cutV3 (a, m, e)) ∧ Short ws ∧ RightCut ws a m e ∧ ∀ H', Same H H' → Q .non H'
theorem ok_refuse_wrong_lines {f : Addr} {fd : FuncData} {dvs : List V} (F : Fn K "refuse_wrong_lines" s_refuse_wrong_lines dvs f fd) (O_indent_of : Own P w K mg base "indent_of" 1 ["line"] [] (sp_indent_of)) (O_refuse_wrong_indents : Own P w K mg base "refuse_wrong_indents" 1 ["lines", "start", "end", "ahead"] [] (sp_refuse_wrong_indents)) (m_len : mg "len" = none) (m_range : mg "range" = none) {t_PROMPT : Tok} (c_PROMPT : mg "PROMPT" = some (.str ">>>" t_PROMPT)) : FnOk P w K mg base CX0 2 f fd ["lines", "cut"] (sp_refuse_wrong_lines) := by
  refine Fn.okN F sc_refuse_wrong_lines (fun vs H Q E h => ?_) (fun cdv A outer s H vs Q E hr h => ?_)
  · obtain ⟨_, _, _, _, _, _, rfl, _⟩ := h
    rfl
  · obtain ⟨p, t, ws, a, m, e, rfl, hp, ht, hs, rc, k⟩ := h
    refine ⟨_, (pss_cons (ps_asg (pv 1) (pg_tup rfl (pgs_cons (pg_name (i := 2) sc_refuse_wrong_lines.nd rfl (.inl rfl)) (pgs_cons (pg_name (i := 3) sc_refuse_wrong_lines.nd rfl (.inl rfl)) (pgs_cons (pg_name (i := 4) sc_refuse_wrong_lines.nd rfl (.inl rfl)) pgs_nil)))))
      (pss_cons (ps_set (i := 5) sc_refuse_wrong_lines.nd rfl (.inl rfl) (pe_own O_indent_of (hr.mono (by decide)) (by rfl) (pa_cons (pe_ix ix_list (pv 0) (pv 2) (fun _ _ => rfl)) pa_nil)))
      (pss_cons (ps_set (i := 6) sc_refuse_wrong_lines.nd rfl (.inl rfl) (pe_op op_add (pv 5) (pe_callB call_len_str (by rfl) m_len PySem.boot_len (pa_cons (pe_glob (v := .str ">>>") rfl c_PROMPT ⟨_, rfl⟩) pa_nil))))
      (pss_cons (ps_for PassesOwn.never rfl (pi_range2 rfl m_range (pa_cons (pv 2) (pa_cons (pv 3) pa_nil))) (pg_name (i := 7) sc_refuse_wrong_lines.nd rfl (.inl rfl))
          (pss_one (ps_if (pt_cmpR op_notIn_seq (pe_slice sl_str (pe_ix ix_list (pv 0) (pv 7) (fun _ _ => rfl)) (po_some (pv 6)) (po_some (pe_op op_add (pv 6) pe_int))) (pe_tup (pa_cons pe_str (pa_cons pe_str pa_nil))) rfl)
                (pss_one ps_never)
                pss_nil)))
      (pss_cons (ps_expr (pe_own O_refuse_wrong_indents (hr.mono (by decide)) (by rfl) (pa_cons (pv 0) (pa_cons (pe_op op_add (pv 2) pe_int) (pa_cons (pv 3) (pa_cons (pe_op op_add_str (pe_op op_repS pe_str (pv 5)) pe_str) pa_nil))))))
      (pss_one (ps_expr (pe_own O_refuse_wrong_indents (hr.mono (by decide)) (by rfl) (pa_cons (pv 0) (pa_cons (pv 3) (pa_cons (pv 4) (pa_cons (pe_op op_repS pe_str (pv 5)) pa_nil)))))))))))), ?_⟩
    obtain ⟨am, me, ew, bl, src, wnt⟩ := rc
    have h1 := hs.1
    have ha : a < ws.length := by omega
    have hga : ((ws.map mk).map V.str)[a]? = some (.str (mk ws[a])) := by
      rw [List.getElem?_map, List.getElem?_map, List.getElem?_eq_getElem ha]
      rfl
    have la := hs.2 _ (List.getElem_mem ha)
    have ll : lead ws[a] ≤ 10000 := Nat.le_trans (lead_le _) la
    have mo := mulOk_sp ll
    have ml := mul_len (lead ws[a])
    refine ⟨.ref t, rfl, t, _, rfl, SqT.of ht, rfl, _, _, rfl, _, _, rfl, _, _, rfl, rfl, .ref p, rfl, .int (a : Int), rfl, p, _, _, .str (mk ws[a]), rfl, rfl, SqL.of hp, atI_nat hga, mk ws[a], rfl, by rw [mk_len]; omega, ?_⟩
    rw [show tl (mk ws[a]) = ws[a] from rfl]
    generalize lead ws[a] = n at bl src wnt ll mo ml ⊢
    have e3 : ((">>>" : Str).length : Int) = 3 := by decide +kernel
    refine ⟨.int (n : Int), rfl, ">>>", rfl, by decide +kernel, _, _, rfl, rfl, .int (a : Int), rfl, .int (m : Int), rfl, a, m, rfl, ⟨by omega, by omega, by omega, by omega⟩, ?_⟩
    rw [e3]
    refine for_range (lo := (a : Int)) (n := ((m : Int) - (a : Int)).toNat) (fun i σ H1 => ∃ v7, σ = [some (.ref p), some (.ref t), some (.int (a : Int)), some (.int (m : Int)), some (.int (e : Int)), some (.int (n : Int)), some (.int ((n : Int) + 3)), v7] ∧ Same H H1) ⟨_, rfl, fun _ _ e => e⟩ ?_ ?_
    · rintro i σ H1 hi ⟨v7, rfl, s1⟩
      have hj : a + i < ws.length := by omega
      have hgj : ((ws.map mk).map V.str)[a + i]? = some (.str (mk ws[a + i])) := by
        rw [List.getElem?_map, List.getElem?_map, List.getElem?_eq_getElem hj]
        rfl
      have lj := hs.2 _ (List.getElem_mem hj)
      have hb := bl (a + i) _ (by omega) (by omega) (List.getElem?_eq_getElem hj)
      refine ⟨.ref p, rfl, .int ((a : Int) + (i : Nat)), rfl, p, _, _, .str (mk ws[a + i]), rfl, rfl, SqL.of (s1 _ _ hp), ?_, .int _, rfl, _, rfl, .int _, rfl, _, _, rfl, rfl, _, rfl, mk ws[a + i], rfl, by rw [mk_len]; exact line_of (by omega), by show 2 ≤ sizeLine; decide, fun T nT => ⟨T, _, rfl, .inr (SqT.of upd_same), rfl, rfl, _, rfl, ?_⟩⟩
      · rw [show ((a : Int) + (i : Nat)) = ((a + i : Nat) : Int) by omega]
        exact atI_nat hgj
      rw [if_pos rfl, hb]
      exact iteF ⟨_, rfl, s1.trans (same_new nT)⟩
    · rintro σ H1 ⟨v7, rfl, s1⟩
      refine ⟨.ref p, rfl, .int (a : Int), rfl, _, _, rfl, rfl, .int (m : Int), rfl, .int (n : Int), rfl, " ", _, rfl, rfl, mo, _, ".", rfl, rfl, ?_, p, ws, a + 1, m, _, rfl, s1 _ _ hp, by omega, by omega, hs, src, ?_⟩
      · have : (".": Str).length = 1 := rfl
        exact line_of (by omega)
      exact ⟨.ref p, rfl, .int (m : Int), rfl, .int (e : Int), rfl, .int (n : Int), rfl, " ", _, rfl, rfl, mo, p, ws, m, e, _, rfl, s1 _ _ hp, by omega, ew, hs, wnt, k _ s1⟩
theorem rows_bound {x : Str} {init : List (List Nat)} {last : List Nat} (ex : tl x = joinL [10] (init ++ [last])) (hx : x.length ≤ 10000) : (∀ l ∈ rowsOf init last, l.length ≤ 10000) ∧ (rowsOf init last).length ≤ 10002 ∧ ((rowsOf init last).map (·.length)).sum + (rowsOf init last).length ≤ 10001 := by
  have jl := joinL_len [10] (ps := init ++ [last]) (by simp)
  have e1 : ([10] : List Nat).length = 1 := rfl
  rw [e1, List.map_append, List.sum_append, List.length_append, ← ex] at jl
  have c1 : ([last].map (·.length)).sum = last.length := by
    show last.length + 0 = _
    omega
  rw [c1] at jl
  have lt : (tl x).length ≤ 10000 := by rw [← len_tl]; exact hx
  have jp := join_parts (init ++ [last])
  rw [← ex, List.length_append] at jp
  have l1 : [last].length = 1 := rfl
  rw [l1] at jl
  unfold rowsOf ifAny
  refine ⟨fun l hl => ?_, ?_, ?_⟩
  · rcases List.mem_append.mp hl with h | h
    · exact Nat.le_trans (jp.2 l (List.mem_append_left _ h)) lt
    · split at h
      · cases h
      · rw [List.mem_singleton.mp h]
        exact Nat.le_trans (jp.2 last (List.mem_append_right _ (List.mem_singleton.mpr rfl))) lt
  · rw [List.length_append]
    split
    · show _ + 0 ≤ _
      omega
    · omega
  · rw [List.map_append, List.sum_append, List.length_append]
    split
    · show _ + 0 + (_ + 0) ≤ _
      omega
    · rw [c1, l1]
      omega
/-- a line that is blank or a remark -/
def remL (l : List Nat) : Bool := isBlank l || Txt.startswith (Txt.lstripChars (mk l) " \t") "#"
def sp_is_remark : Sp := fun vs H Q _ => ∃ (x : Str) (init : List (List Nat)) (last : List Nat), vs = [.str x] ∧ tl x = joinL [10] (init ++ [last]) ∧ Rows10 (init ++ [last]) ∧ x.length ≤ 10000 ∧ ∀ H', Same H H' → Q (.bl (((rowsOf init last).map remL).all id)) H'
theorem ok_is_remark {f : Addr} {fd : FuncData} {dvs : List V} (F : Fn K "is_remark" s_is_remark dvs f fd) (O_lines_of : Own P w K mg base "lines_of" 2 ["text"] [] (sp_lines_of)) (O_is_blank : Own P w K mg base "is_blank" 1 ["line"] [] (sp_is_blank)) (m_all : mg "all" = none) {t_BLANKS : Tok} (c_BLANKS : mg "BLANKS" = some (.str " \t" t_BLANKS)) : FnOk P w K mg base CX0 3 f fd ["source"] (sp_is_remark) := by
  refine Fn.okN F sc_is_remark (fun vs H Q E h => ?_) (fun cdv A outer s H vs Q E hr h => ?_)
  · obtain ⟨_, _, _, rfl, _⟩ := h
    rfl
  · obtain ⟨x, init, last, rfl, ex, h10, hx, k⟩ := h
    refine ⟨_, (pss_one (ps_ret (pe_callB (cr_all rfl) (by rfl) m_all (by decide +kernel) (pa_cons (pe_lc (own := [("line", 1)]) (g := gName 1) (tt := tYes) (by rfl) sc_is_remark.nd (pi_list (pe_own O_lines_of (hr.mono (by decide)) (by rfl) (pa_cons (pv 0) pa_nil))) (blkOk_by (own := [("line", 1)]) (N := ["source", "line"]) (sc := defScope s_is_remark) (by decide +kernel)) (fun _ _ _ _ _ => (pg_name (i := 1) sc_is_remark.nd rfl (.inl rfl))) (fun _ _ _ _ _ => pts_nil) (fun _ _ _ _ _ => (pe_or (pe_own O_is_blank (hr.mono (by decide)) (by rfl) (pa_cons (pv 1) pa_nil)) (pe_one (pe_m1 PySem.F.slot_str_startswith PySem.F.type_str_startswith mt_startswith (pe_m1 PySem.F.slot_str_lstrip PySem.F.type_str_lstrip mt_lstripChars (pv 1) (pe_glob (v := .str " \t") rfl c_BLANKS ⟨_, rfl⟩)) pe_str))))) pa_nil)))), ?_⟩
    obtain ⟨rb, rn, rs⟩ := rows_bound ex hx
    refine ⟨.str x, rfl, x, init, last, rfl, ex, h10, hx, fun H1 p s1 np ep => ⟨p, rfl, ⟨_, SqL.of ep⟩, fun L nL => ?_⟩⟩
    generalize rowsOf init last = ls at rb rn rs ep k
    refine lc_list (K := K) (a := p) (xs := (ls.map mk).map V.str) (fun i H2 => H2 L = some (.lst (((ls.take i).map remL).map V.bl)) ∧ Same H1 H2) ⟨upd_same, same_new nL⟩ (fun i H2 _ h => SqL.of (h.2 _ _ ep)) ?_ ?_
    · rintro i v H2 hv ⟨eL, s2⟩
      obtain ⟨z, rfl, hz⟩ := str_at hv
      rw [List.getElem?_map] at hz
      obtain ⟨l, hl, rfl⟩ := Option.map_eq_some_iff.mp hz
      have gl := rb l (List.mem_of_getElem? hl)
      have hi : i < ls.length := (List.getElem?_eq_some_iff.mp hl).1
      have sz : (((ls.take i).map remL).map V.bl).length < sizeLine := by
        rw [List.length_map, List.length_map, List.length_take]
        exact Nat.lt_of_le_of_lt (show min i ls.length ≤ 10002 by omega) (by decide)
      have ap : ∀ b, b = remL l → (upd H2 L (.lst (((ls.take i).map remL).map V.bl ++ [.bl b]))) L = some (.lst (((ls.take (i + 1)).map remL).map V.bl)) := fun b hb => by
        rw [upd_same, List.take_add_one, hl, hb, List.map_append, List.map_append]
        rfl
      have sm : ∀ o', Same H1 (upd H2 L o') := fun o' b o e => by
        rw [upd_ne (ne_of_none e nL)]
        exact s2 b o e
      refine ⟨rfl, ?_⟩
      unfold tYes
      show ite (true = true) _ _
      rw [if_pos rfl]
      refine ⟨.str (mk l), rfl, mk l, rfl, by rw [mk_len]; omega, _, rfl, ?_⟩
      rw [show isBlank (tl (mk l)) = isBlank l from rfl]
      cases hb : isBlank l with
      | true => exact iteT ⟨_, eL, sz, ap true (by unfold remL; rw [hb]; rfl), sm _⟩
      | false => exact iteF ⟨.str (mk l), rfl, ⟨_, rfl⟩, mk l, " \t", rfl, rfl, by rw [mk_len]; exact line_of (by omega), ⟨_, rfl⟩, _, "#", rfl, rfl, _, eL, sz, ap _ (by unfold remL; rw [hb]; rfl), sm _⟩
    · rintro H2 ⟨eL, s2⟩
      rw [List.length_map, List.length_map, List.take_length] at eL
      exact ⟨L, ls.map remL, rfl, SqL.of eL, k _ (s1.trans s2)⟩
def lastQ (x : Str) : Int := if Txt.rfind x "\"" > Txt.rfind x "'" then Txt.rfind x "\"" else Txt.rfind x "'"
def markAt (x : Str) (i : Int) : Bool := Txt.startswith (Txt.lstripChars (cutS x (some (i + 1)) none) " \t") "doctest:"
def dirFrom (x : Str) : Nat → Int → Int
  | 0, i => i
  | f + 1, i => if i < 0 then i else if markAt x i = true then i else dirFrom x f (Txt.find3 x "#" (i + 1))
def dirPos (x : Str) : Int := dirFrom x (x.length + 1) (Txt.find3 x "#" (lastQ x + 1))
def dirS (x : Str) : Str := if dirPos x < 0 then "" else cutS x (some (dirPos x)) none
theorem find3_at (x : Str) (i : Int) (h : 0 ≤ i) : Txt.find3 x "#" i = -1 ∨ (i ≤ Txt.find3 x "#" i ∧ Txt.find3 x "#" i < (x.length : Int)) := by
  have e : ("#" : Str) = ⟨#[35]⟩ := ext_tl (by decide +kernel)
  unfold Txt.find3
  rcases StrLaws.occ_head_from x "#" (fromIndex x.length i) 1 (Nat.le_refl _) with ⟨h0, _⟩ | ⟨j, r, h0, h1, hj, _⟩
  · rw [h0]
    exact .inl rfl
  · rw [h0]
    rw [e] at hj
    have hl := (List.getElem?_eq_some_iff.mp (show (tl x)[j]? = some 35 from (StrLaws.subAt_one x 35 j).mp hj)).1
    rw [← len_tl] at hl
    refine .inr ?_
    show i ≤ (j : Int) ∧ (j : Int) < (x.length : Int)
    unfold fromIndex at h1
    rw [if_neg (by omega : ¬ i < 0)] at h1
    omega
theorem rfind_ge (x y : Str) : -1 ≤ Txt.rfind x y := by
  unfold Txt.rfind
  split <;> omega
def sp_directive_of : Sp := fun vs H Q _ => ∃ x : Str, vs = [.str x] ∧ x.length ≤ 10000 ∧ Q (.str (dirS x)) H
theorem ok_directive_of {f : Addr} {fd : FuncData} {dvs : List V} (F : Fn K "directive_of" s_directive_of dvs f fd) (m_max : mg "max" = none) {t_BLANKS : Tok} (c_BLANKS : mg "BLANKS" = some (.str " \t" t_BLANKS)) {t_MARK : Tok} (c_MARK : mg "MARK" = some (.str "doctest:" t_MARK)) : FnOk P w K mg base CX0 1 f fd ["line"] (sp_directive_of) := by
  refine Fn.okN F sc_directive_of (fun vs H Q E h => ?_) (fun cdv A outer s H vs Q E hr h => ?_)
  · obtain ⟨_, rfl, _⟩ := h
    rfl
  · obtain ⟨x, rfl, hx, k⟩ := h
    refine ⟨_, (pss_cons (ps_set (i := 1) sc_directive_of.nd rfl (.inl rfl) (pe_bm PySem.F.plainAttrs_str PySem.F.slot_str_find PySem.F.type_str_find mt_find3 (pv 0) (pa_cons pe_str (pa_cons (pe_op op_add (pe_callB (call_max2 rfl) (by rfl) m_max (by decide +kernel) (pa_cons (pe_m1 PySem.F.slot_str_rfind PySem.F.type_str_rfind mt_rfind (pv 0) pe_str) (pa_cons (pe_m1 PySem.F.slot_str_rfind PySem.F.type_str_rfind mt_rfind (pv 0) pe_str) pa_nil))) pe_int) pa_nil))))
      (pss_cons (ps_while PassesOwn.never (PW.pt (pw_and (pt_cmpR op_ge (pv 1) pe_int (nomark _)) (pw_and1 (pt_not (pt_val (pe_m1 PySem.F.slot_str_startswith PySem.F.type_str_startswith mt_startswith (pe_m1 PySem.F.slot_str_lstrip PySem.F.type_str_lstrip mt_lstripChars (pe_slice sl_str (pv 0) (po_some (pe_op op_add (pv 1) pe_int)) po_none) (pe_glob (v := .str " \t") rfl c_BLANKS ⟨_, rfl⟩)) (pe_glob (v := .str "doctest:") rfl c_MARK ⟨_, rfl⟩)))))))
          (pss_one (ps_set (i := 1) sc_directive_of.nd rfl (.inl rfl) (pe_bm PySem.F.plainAttrs_str PySem.F.slot_str_find PySem.F.type_str_find mt_find3 (pv 0) (pa_cons pe_str (pa_cons (pe_op op_add (pv 1) pe_int) pa_nil))))))
      (pss_one (ps_ret (pe_ifExp (pt_cmpR op_lt (pv 1) pe_int (nomark _)) pe_str (pe_slice sl_str (pv 0) (po_some (pv 1)) po_none)))))), ?_⟩
    have zx : x.length ≤ sizeLine := line_of (by omega)
    refine ⟨.str x, rfl, rfl, .str x, rfl, ⟨_, rfl⟩, x, "'", rfl, rfl, .str x, rfl, ⟨_, rfl⟩, x, "\"", rfl, rfl, _, _, rfl, _, _, rfl, rfl, x, "#", _, rfl, rfl, ?_⟩
    refine while_by (fun σ H1 => ∃ (f : Nat) (i : Int), σ = [some (.str x), some (.int i)] ∧ H = H1 ∧ dirFrom x f i = dirPos x ∧ (i < 0 ∨ ((x.length : Int) - i < f ∧ i < x.length))) (fun σ _ => match σ with | [_, some (.int z)] => if z < 0 then 0 else (x.length - z).toNat + 1 | _ => 0) ⟨x.length + 1, _, rfl, rfl, rfl, ?_⟩ ?_ (mo_and (mo_test (mo_op mo_I0 mo_var mo_const)) (mo_not (mo_B (mo_m1 (fun x xs H Q Q' i ⟨a, b, e1, e2, q⟩ => ⟨a, b, e1, e2, i _ _ q⟩) (mo_m1 (fun x xs H Q Q' i ⟨a, b, e1, e2, e3, q⟩ => ⟨a, b, e1, e2, e3, i _ _ q⟩) ?_ mo_const) mo_const))))
    · have lq : 0 ≤ lastQ x + 1 := by
        have r1 := rfind_ge x "\""
        have r2 := rfind_ge x "'"
        unfold lastQ
        split <;> omega
      rcases find3_at x (lastQ x + 1) lq with h | h
      · exact .inl (by show Txt.find3 x "#" (lastQ x + 1) < 0; omega)
      · refine .inr ?_
        show (x.length : Int) - Txt.find3 x "#" (lastQ x + 1) < ((x.length + 1 : Nat) : Int) ∧ Txt.find3 x "#" (lastQ x + 1) < (x.length : Int)
        omega
    · rintro σ H1 ⟨f, i, rfl, rfl, hf, hi⟩
      refine ⟨.int i, rfl, _, _, rfl, rfl, _, rfl, ?_⟩
      rcases Int.lt_or_le i 0 with h | h
      · rw [decide_eq_false (by omega)]
        refine iteF (iteF ⟨.int i, rfl, _, _, rfl, rfl, _, rfl, ?_⟩)
        rw [decide_eq_true h]
        have e1 : dirFrom x f i = i := by
          cases f with
          | zero => rfl
          | succ f => rw [dirFrom, if_pos h]
        unfold dirS at k
        rw [← hf, e1, if_pos h] at k
        exact iteT k
      · rw [decide_eq_true h]
        have hi2 := hi.resolve_left (by omega)
        cases f with
        | zero => exact absurd hi2.1 (by omega)
        | succ f =>
          rw [dirFrom, if_neg (by omega)] at hf
          refine iteT ⟨.str x, rfl, .int i, rfl, _, _, rfl, rfl, _, rfl, x, rfl, zx, ⟨_, rfl⟩, _, " \t", rfl, rfl, Nat.le_trans (cutS_length _ _ _) zx, ⟨_, rfl⟩, _, "doctest:", rfl, rfl, _, rfl, ?_⟩
          show ite ((!markAt x i) = true) _ _
          cases hm : markAt x i with
          | true =>
            rw [hm, if_pos rfl] at hf
            refine iteF ⟨.int i, rfl, _, _, rfl, rfl, _, rfl, ?_⟩
            rw [decide_eq_false (by omega)]
            unfold dirS at k
            rw [← hf, if_neg (by omega)] at k
            exact iteF ⟨.str x, rfl, .int i, rfl, _, rfl, x, rfl, zx, k⟩
          | false =>
            rw [hm, if_neg Bool.false_ne_true] at hf
            have fa := find3_at x (i + 1) (by omega)
            refine iteT ⟨.str x, rfl, rfl, .int i, rfl, _, _, rfl, rfl, x, "#", _, rfl, rfl, ⟨f, _, rfl, rfl, hf, by omega⟩, ?_⟩
            show (if Txt.find3 x "#" (i + 1) < 0 then 0 else ((x.length : Int) - Txt.find3 x "#" (i + 1)).toNat + 1) < (if i < 0 then 0 else ((x.length : Int) - i).toNat + 1)
            rw [if_neg (show ¬ i < 0 by omega)]
            split <;> omega
    · rintro σ H Q Q' i ⟨v1, e1, v2, e2, a, b, e3, e4, j, e5, z, e6, e7, q⟩
      exact ⟨v1, e1, v2, e2, a, b, e3, e4, j, e5, z, e6, e7, i _ _ q⟩
def sp_bare_line : Sp := fun vs H Q _ => ∃ x : Str, vs = [.str x] ∧ x.length ≤ 10000 ∧ Q (.str (Txt.rstripChars (Txt.removesuffix x (dirS x)) " \t")) H
theorem ok_bare_line {f : Addr} {fd : FuncData} {dvs : List V} (F : Fn K "bare_line" s_bare_line dvs f fd) (O_directive_of : Own P w K mg base "directive_of" 1 ["line"] [] (sp_directive_of)) {t_BLANKS : Tok} (c_BLANKS : mg "BLANKS" = some (.str " \t" t_BLANKS)) : FnOk P w K mg base CX0 2 f fd ["line"] (sp_bare_line) := by
  refine Fn.okN F sc_bare_line (fun vs H Q E h => ?_) (fun cdv A outer s H vs Q E hr h => ?_)
  · obtain ⟨_, rfl, _⟩ := h
    rfl
  · obtain ⟨x, rfl, hx, k⟩ := h
    refine ⟨_, (pss_one (ps_ret (pe_m1 PySem.F.slot_str_rstrip PySem.F.type_str_rstrip mt_rstripChars (pe_m1 PySem.F.slot_str_removesuffix PySem.F.type_str_removesuffix mt_removesuffix (pv 0) (pe_own O_directive_of (hr.mono (by decide)) (by rfl) (pa_cons (pv 0) pa_nil))) (pe_glob (v := .str " \t") rfl c_BLANKS ⟨_, rfl⟩)))), ?_⟩
    have zx : x.length ≤ sizeLine := line_of (by omega)
    exact ⟨.str x, rfl, ⟨_, rfl⟩, .str x, rfl, x, rfl, hx, x, dirS x, rfl, rfl, zx, ⟨_, rfl⟩, _, " \t", rfl, rfl, Nat.le_trans (rsuf_len _ _) zx, k⟩
/-- a source line without its directive, and without blanks at its end -/
def bareS (l : List Nat) : List Nat := tl (Txt.rstripChars (Txt.removesuffix (mk l) (dirS (mk l))) " \t")
theorem bareS_len (l : List Nat) : (bareS l).length ≤ l.length := by
  have a := rsuf_len (mk l) (dirS (mk l))
  have b : (Txt.rstripChars (Txt.removesuffix (mk l) (dirS (mk l))) " \t").length ≤ (Txt.removesuffix (mk l) (dirS (mk l))).length := len_stripBy _ _ _ _
  rw [mk_len] at a
  unfold bareS
  rw [← len_tl]
  omega
def sp_bare_of : Sp := fun vs H Q _ => ∃ (x : Str) (init : List (List Nat)) (last : List Nat), vs = [.str x] ∧ tl x = joinL [10] (init ++ [last]) ∧ Rows10 (init ++ [last]) ∧ x.length ≤ 10000 ∧ ∀ H', Same H H' → Q (.str (mk (joinL [] ((rowsOf init last).map fun l => bareS l ++ [10])))) H'
theorem ok_bare_of {f : Addr} {fd : FuncData} {dvs : List V} (F : Fn K "bare_of" s_bare_of dvs f fd) (O_lines_of : Own P w K mg base "lines_of" 2 ["text"] [] (sp_lines_of)) (O_bare_line : Own P w K mg base "bare_line" 2 ["line"] [] (sp_bare_line)) : FnOk P w K mg base CX0 3 f fd ["source"] (sp_bare_of) := by
  refine Fn.okN F sc_bare_of (fun vs H Q E h => ?_) (fun cdv A outer s H vs Q E hr h => ?_)
  · obtain ⟨_, _, _, rfl, _⟩ := h
    rfl
  · obtain ⟨x, init, last, rfl, ex, h10, hx, k⟩ := h
    refine ⟨_, (pss_one (ps_ret (pe_m1 PySem.F.slot_str_join PySem.F.type_str_join mt_join pe_str (pe_lc (own := [("line", 1)]) (g := gName 1) (tt := tYes) (by rfl) sc_bare_of.nd (pi_list (pe_own O_lines_of (hr.mono (by decide)) (by rfl) (pa_cons (pv 0) pa_nil))) (blkOk_by (own := [("line", 1)]) (N := ["source", "line"]) (sc := defScope s_bare_of) (by decide +kernel)) (fun _ _ _ _ _ => (pg_name (i := 1) sc_bare_of.nd rfl (.inl rfl))) (fun _ _ _ _ _ => pts_nil) (fun _ _ _ _ _ => (pe_op op_add_str (pe_own O_bare_line (hr.mono (by decide)) (by rfl) (pa_cons (pv 1) pa_nil)) pe_str)))))), ?_⟩
    obtain ⟨rb, rn, rs⟩ := rows_bound ex hx
    refine ⟨⟨_, rfl⟩, .str x, rfl, x, init, last, rfl, ex, h10, hx, fun H1 p s1 np ep => ⟨p, rfl, ⟨_, SqL.of ep⟩, fun L nL => ?_⟩⟩
    generalize rowsOf init last = ls at rb rn rs ep k
    refine lc_list (K := K) (a := p) (xs := (ls.map mk).map V.str) (fun i H2 => H2 L = some (rowsV ((ls.take i).map fun l => bareS l ++ [10])) ∧ Same H1 H2) ⟨upd_same, same_new nL⟩ (fun i H2 _ h => SqL.of (h.2 _ _ ep)) ?_ ?_
    · rintro i v H2 hv ⟨eL, s2⟩
      obtain ⟨z, rfl, hz⟩ := str_at hv
      rw [List.getElem?_map] at hz
      obtain ⟨l, hl, rfl⟩ := Option.map_eq_some_iff.mp hz
      have gl := rb l (List.mem_of_getElem? hl)
      have hi : i < ls.length := (List.getElem?_eq_some_iff.mp hl).1
      have bl := bareS_len l
      have l1 : ("\n" : Str).length = 1 := rfl
      refine ⟨rfl, ?_⟩
      unfold tYes
      show ite (true = true) _ _
      rw [if_pos rfl]
      refine ⟨.str (mk l), rfl, mk l, rfl, by rw [mk_len]; omega, _, _, rfl, rfl, ?_, _, eL, ?_, ?_, fun b o e => ?_⟩
      · rw [l1, len_tl]
        exact line_of (show (bareS l).length + 1 ≤ _ by omega)
      · rw [List.length_map, List.length_map, List.length_map, List.length_take]
        exact Nat.lt_of_le_of_lt (show min i ls.length ≤ 10002 by omega) (by decide)
      · rw [upd_same, List.take_add_one, hl, List.map_append]
        unfold rowsV
        rw [List.map_append, List.map_append]
        exact congrArg (fun v => some (HO.lst ((((ls.take i).map fun l => bareS l ++ [10]).map mk).map V.str ++ [v]))) (congrArg V.str (ext_tl (by rw [tl_append]; rfl)))
      · rw [upd_ne (ne_of_none e nL)]
        exact s2 b o e
    · rintro H2 ⟨eL, s2⟩
      rw [List.length_map, List.length_map, List.take_length] at eL
      refine ⟨"", L, (ls.map fun l => bareS l ++ [10]).map mk, rfl, rfl, .inl (SqL.of eL), ?_, ?_⟩
      · have e0 : ("" : Str).length = 0 := by decide +kernel
        rw [e0, Nat.mul_zero, List.map_map, List.map_map]
        have sb := sum_map_le (fun l : List Nat => (mk (bareS l ++ [10])).length) (fun l => (l ++ [10]).length) ls fun l _ => by
          have := bareS_len l
          show (mk (bareS l ++ [10])).length ≤ (l ++ [10]).length
          rw [mk_len, List.length_append, List.length_append]
          omega
        have sf := sum_fed ls
        rw [List.map_map] at sf
        show (ls.map fun l => (mk (bareS l ++ [10])).length).sum + 0 ≤ _
        have sf2 : (ls.map fun l => (l ++ [10]).length).sum = (ls.map (·.length)).sum + ls.length := sf
        omega
      · have e0 : ("" : Str) = mk [] := ext_tl (by decide +kernel)
        rw [e0, join_mk]
        exact k _ (s1.trans s2)
theorem dirS_none : dirS "" = "" := by decide +kernel
def sp_directive_words : Sp := fun vs H Q _ => ∃ x : Str, vs = [.str x] ∧ dirS x = "" ∧ x.length ≤ 10000 ∧ ∀ (H' : Hp) (p : Addr), Same H H' → H p = none → H' p = some (.lst []) → Q (.ref p) H'
theorem ok_directive_words {f : Addr} {fd : FuncData} {dvs : List V} (F : Fn K "directive_words" s_directive_words dvs f fd) (O_words_of : Own P w K mg base "words_of" 1 ["text"] [] (sp_words_of)) (O_directive_of : Own P w K mg base "directive_of" 1 ["line"] [] (sp_directive_of)) : FnOk P w K mg base CX0 2 f fd ["line"] (sp_directive_words) := by
  refine Fn.okN F sc_directive_words (fun vs H Q E h => ?_) (fun cdv A outer s H vs Q E hr h => ?_)
  · obtain ⟨_, rfl, _⟩ := h
    rfl
  · obtain ⟨x, rfl, hd, hx, k⟩ := h
    refine ⟨_, (pss_one (ps_ret (pe_own O_words_of (hr.mono (by decide)) (by rfl) (pa_cons (pe_replN (pe_ix ix_tup (pe_m1 PySem.F.slot_str_partition PySem.F.type_str_partition mt_partition (pe_own O_directive_of (hr.mono (by decide)) (by rfl) (pa_cons (pv 0) pa_nil)) pe_str) pe_int (fun _ _ => rfl))) pa_nil)))), ?_⟩
    refine ⟨.str x, rfl, x, rfl, hx, ⟨_, rfl⟩, dirS x, ":", rfl, rfl, by decide +kernel, by rw [hd]; decide +kernel, ?_⟩
    rw [hd]
    refine fun T nT => ?_
    have sT := same_new (o := .tup [.str (Txt.partition "" ":").1, .str (Txt.partition "" ":").2.1, .str (Txt.partition "" ":").2.2]) nT
    have e2 : (Txt.partition "" ":").2.2 = "" := by decide +kernel
    refine ⟨T, _, 2, .str (Txt.partition "" ":").2.2, rfl, rfl, SqT.of upd_same, atI_nat (j := 2) rfl, ?_⟩
    rw [e2]
    refine ⟨"", rfl, by decide +kernel, rfl, fun H1 p s1 np ep => ?_⟩
    rw [e2] at sT
    exact k _ p (sT.trans s1) (sT.free np) ep
def sp_options_of : Sp := fun vs H Q _ => ∃ (x : Str) (init : List (List Nat)) (last : List Nat) (n : Int), vs = [.str x, .int n] ∧ tl x = joinL [10] (init ++ [last]) ∧ Rows10 (init ++ [last]) ∧ x.length ≤ 10000 ∧ (∀ l ∈ rowsOf init last, dirS (mk l) = "") ∧ ∀ (H' : Hp) (p : Addr), Same H H' → H p = none → H' p = some (.dK []) → Q (.ref p) H'
theorem ok_options_of {f : Addr} {fd : FuncData} {dvs : List V} (F : Fn K "options_of" s_options_of dvs f fd) (O_lines_of : Own P w K mg base "lines_of" 2 ["text"] [] (sp_lines_of)) (O_directive_words : Own P w K mg base "directive_words" 2 ["line"] [] (sp_directive_words)) : FnOk P w K mg base CX0 3 f fd ["source", "number"] (sp_options_of) := by
  refine Fn.okN F sc_options_of (fun vs H Q E h => ?_) (fun cdv A outer s H vs Q E hr h => ?_)
  · obtain ⟨_, _, _, _, rfl, _⟩ := h
    rfl
  · obtain ⟨x, init, last, n, rfl, ex, h10, hx, hd, k⟩ := h
    refine ⟨_, (pss_cons (ps_set (i := 2) sc_options_of.nd rfl (.inl rfl) pe_dnewK)
      (pss_cons (ps_for PassesOwn.never rfl (pi_list (pe_own O_lines_of (hr.mono (by decide)) (by rfl) (pa_cons (pv 0) pa_nil))) (pg_name (i := 3) sc_options_of.nd rfl (.inl rfl))
          (pss_one (ps_for PassesOwn.never rfl (pi_list (pe_own O_directive_words (hr.mono (by decide)) (by rfl) (pa_cons (pv 3) pa_nil))) (pg_name (i := 4) sc_options_of.nd rfl (.inl rfl))
                (pss_cons ps_never
                  (pss_one ps_never)))))
      (pss_one (ps_ret (pv 2))))), ?_⟩
    obtain ⟨rb, rn, rs⟩ := rows_bound ex hx
    refine fun C nC => ⟨.str x, rfl, x, init, last, rfl, ex, h10, hx, fun H1 p s1 np ep => ⟨p, rfl, ⟨_, SqL.of ep⟩, ?_⟩⟩
    generalize rowsOf init last = ls at rb rn rs hd ep
    have sC := same_new (o := .dK []) nC
    have eC := s1 _ _ (upd_same (H := H) (a := C) (o := .dK []))
    refine for_list (K := K) (a := p) (xs := (ls.map mk).map V.str) (fun i σ H2 => ∃ v3 v4 : Option V, σ = [some (.str x), some (.int n), some (.ref C), v3, v4] ∧ Same H1 H2) ⟨_, _, rfl, fun _ _ e => e⟩ (fun i σ H2 _ h => by obtain ⟨_, _, _, s⟩ := h; exact SqL.of (s _ _ ep)) ?_ ?_
    · rintro i v σ H2 hv ⟨v3, v4, rfl, s2⟩
      obtain ⟨z, rfl, hz⟩ := str_at hv
      rw [List.getElem?_map] at hz
      obtain ⟨l, hl, rfl⟩ := Option.map_eq_some_iff.mp hz
      have hm := List.mem_of_getElem? hl
      refine ⟨.str (mk l), rfl, mk l, rfl, hd l hm, by rw [mk_len]; exact rb l hm, fun H3 q s3 nq eq => ⟨q, rfl, ⟨_, SqL.of eq⟩, for_list (K := K) (a := q) (xs := []) (fun i σ H4 => ∃ v3 v4 : Option V, σ = [some (.str x), some (.int n), some (.ref C), v3, v4] ∧ H4 = H3) ⟨_, _, rfl, rfl⟩ (fun i σ H4 _ h => by obtain ⟨_, _, _, rfl⟩ := h; exact SqL.of eq) ?_ ?_⟩⟩
      · rintro i v σ H4 hv _
        cases hv
      · rintro σ H4 ⟨v3, v4, rfl, rfl⟩
        exact ⟨_, _, rfl, s2.trans s3⟩
    · rintro σ H2 ⟨v3, v4, rfl, s2⟩
      exact ⟨.ref C, rfl, k _ C (sC.trans (s1.trans s2)) nC (s2 _ _ eC)⟩
def sp_require_flags : Sp := fun vs H Q _ => ∃ d : Addr, vs = [.ref d] ∧ H d = some (.dK []) ∧ ∀ H', Same H H' → Q .non H'
theorem ok_require_flags {f : Addr} {fd : FuncData} {dvs : List V} (F : Fn K "require_flags" s_require_flags dvs f fd) : FnOk P w K mg base CX0 1 f fd ["flags"] (sp_require_flags) := by
  refine Fn.okN F sc_require_flags (fun vs H Q E h => ?_) (fun cdv A outer s H vs Q E hr h => ?_)
  · obtain ⟨_, rfl, _⟩ := h
    rfl
  · obtain ⟨d, rfl, hd, k⟩ := h
    refine ⟨_, (pss_one (ps_lock (ps_for PassesOwn.never rfl (pi_keys (pv 0)) (pg_name (i := 1) sc_require_flags.nd rfl (.inl rfl))
          (pss_one ps_never)))), ?_⟩
    refine ⟨d, .dK [], hd, trivial, fun od => ⟨.ref d, rfl, d, od, rfl, .inl ⟨[], upd_same, ?_⟩⟩⟩
    refine ⟨fun i m σ H1 => i = 0 ∧ m = 0 ∧ σ = L2.start ["flags", "thing"] [V.ref d] ∧ H1 = upd H d (.frz od (.dK [])), ⟨0, rfl, rfl, rfl, rfl⟩, ?_⟩
    rintro i m σ H1 ⟨rfl, rfl, rfl, rfl⟩
    refine .inl ⟨⟨upd_same, Nat.zero_le _⟩, upd_same, k _ fun b o e => ?_⟩
    by_cases hb : b = d
    · rw [hb] at e ⊢
      rw [hd] at e
      cases e
      exact upd_same
    · rw [upd_ne hb, upd_ne hb]
      exact e
/-- the fields of an example without options -/
structure ExF (H : Hp) (fs : List (Str × V)) (src wt : Str) (er : V) (n i : Int) (br : Str) : Prop where
  source : fs.lookup ("source" : Str) = some (.str src)
  want : fs.lookup ("want" : Str) = some (.str wt)
  error : fs.lookup ("error" : Str) = some er
  line : fs.lookup ("line" : Str) = some (.int n)
  indent : fs.lookup ("indent" : Str) = some (.int i)
  options : ∃ o : Addr, fs.lookup ("options" : Str) = some (.ref o) ∧ H o = some (.dK [])
  bare : fs.lookup ("bare" : Str) = some (.str br)
def bareT (init : List (List Nat)) (last : List Nat) : Str := mk (joinL [] ((rowsOf init last).map fun l => bareS l ++ [10]))
def sp_Example_init (C : Addr) : Sp := fun vs H Q _ => ∃ (x dx : Addr) (op : V) (src wt : Str) (init : List (List Nat)) (last : List Nat) (er : V) (n i : Int), vs = [.ref x, .str src, .str wt, er, .int n, .int i, op] ∧ (tl (fedS src) = joinL [10] (init ++ [last]) ∧ Rows10 (init ++ [last]) ∧ src.length ≤ 100000 ∧ (fedS src).length ≤ 10000) ∧ wt.length ≤ 100000 ∧ (er = .non ∨ ∃ e : Str, er = .str e ∧ e.length ≤ 100000) ∧
  H x = some (.ins C dx []) ∧ (op = .non ∨ ∃ d, op = .ref d ∧ H d = some (.dK [])) ∧ ∀ (H' : Hp) (fs : List (Str × V)), (∀ b o, H b = some o → b ≠ x → H' b = some o) → H' x = some (.ins C dx fs) → ExF H' fs (fedS src) (wantS wt) (errS er) n i (bareT init last) → Q .non H'
theorem ok_Example_init {f : Addr} {fd : FuncData} {dvs : List V} {kws : List (Str × V)} (F : FunD K "__init__" "Example.__init__" (defArgs s_Example_init) (defBody s_Example_init) (defScope s_Example_init) dvs kws f fd) {C_Example : Addr} (T_Example : Txt_Example K mg C_Example) (O_require_flags : Own P w K mg base "require_flags" 1 ["flags"] [] (sp_require_flags)) (O_fed : Own P w K mg base "fed" 1 ["text"] [] (sp_fed)) (O_bare_of : Own P w K mg base "bare_of" 3 ["source"] [] (sp_bare_of)) (m_dict : mg "dict" = none) : FnOk P w K mg base CX0 4 f fd ["self", "source", "want", "error", "line", "indent", "options"] (sp_Example_init C_Example) := by
  refine FunD_okN F sc_Example_init (fun vs H Q E h => ?_) (fun cdv A outer s H vs Q E hr h => ?_)
  · obtain ⟨_, _, _, _, _, _, _, _, _, _, rfl, _⟩ := h
    rfl
  · obtain ⟨x, dx, op, src, wt, init, last, er, n, i, rfl, ⟨xe, h10, lsrc, hsl⟩, lw, he, hx, hop, k⟩ := h
    refine ⟨_, (pss_cut (ps_set (i := 7) sc_Example_init.nd rfl (.inl rfl) (pe_ifExp (pt_cmpR op_isN (pv 6) pe_non (nomark _)) pe_dnewK (pv 6)))
      (pss_cons (ps_expr (pe_own O_require_flags (hr.mono (by decide)) (by rfl) (pa_cons (pv 7) pa_nil)))
      (pss_cons (ps_fld (pv 0) (pe_own O_fed (hr.mono (by decide)) (by rfl) (pa_cons (pv 1) pa_nil)) rfl)
      (pss_cut (ps_fld (pv 0) (pe_ifExp (pt_tr (K' := K) (pv 2)) (pe_own O_fed (hr.mono (by decide)) (by rfl) (pa_cons (pv 2) pa_nil)) (pv 2)) rfl)
      (pss_cut (ps_fld (pv 0) (pe_ifExp (pt_cmpR op_isN (pv 3) pe_non (nomark _)) pe_non (pe_own O_fed (hr.mono (by decide)) (by rfl) (pa_cons (pv 3) pa_nil))) rfl)
      (pss_cons (ps_fld (pv 0) (pv 4) rfl)
      (pss_cons (ps_fld (pv 0) (pv 5) rfl)
      (pss_cons (ps_fld (pv 0) (pe_callTy call_dictD (by rfl) m_dict (by decide +kernel) (pa_cons (pv 7) pa_nil)) rfl)
      (pss_one (ps_fld (pv 0) (pe_own O_bare_of (hr.mono (by decide)) (by rfl) (pa_cons (pe_fldK (K' := K) rfl (pv 0) rfl) pa_nil)) rfl)))))))))), ?_⟩
    refine ⟨fun σ Hx => ∃ d : Addr, σ = [some (.ref x), some (.str src), some (.str wt), some er, some (.int n), some (.int i), some op, some (.ref d)] ∧ Same H Hx ∧ Hx d = some (.dK []), ?_, ?_⟩
    · refine ⟨op, rfl, rfl, _, rfl, ?_⟩
      rcases hop with rfl | ⟨d, rfl, hd⟩
      · exact iteT (fun d nd => ⟨d, rfl, same_new nd, upd_same⟩)
      · rw [decide_eq_false (show V.ref d ≠ V.non from nofun)]
        exact iteF ⟨.ref d, rfl, d, rfl, fun _ _ e => e, hd⟩
    rintro σ Hx ⟨d, rfl, sx, hd⟩
    have hx0 := sx _ _ hx
    have xd : d ≠ x := fun e => by
      rw [e, hx0] at hd
      cases hd
    refine ⟨.ref d, rfl, d, rfl, hd, fun H1 s1x => ?_⟩
    have s1 : Same H H1 := sx.trans s1x
    have hd1 := s1x _ _ hd
    have o1 : Out x H H1 := fun b o e _ => s1 _ _ e
    refine ⟨.str src, rfl, src, rfl, lsrc, .ref x, rfl, x, C_Example, dx, [], rfl, s1 _ _ hx, T_Example.cl, T_Example.n_source, by decide, ?_⟩
    have o2 : Out x H (upd H1 x (.ins C_Example dx (putF "source" (.str (fedS src)) []))) := o1.put
    have ex2 : Out x H1 (upd H1 x (.ins C_Example dx (putF "source" (.str (fedS src)) []))) := Out.put (fun b o e _ => e)
    have hd2 := ex2 _ _ hd1 xd
    have e2 : (upd H1 x (.ins C_Example dx (putF "source" (.str (fedS src)) []))) x = some (.ins C_Example dx (putF "source" (.str (fedS src)) [])) := upd_same
    have l2 : (putF "source" (.str (fedS src)) []).length ≤ 1 := put_len (Nat.le_refl 0)
    have k2 : (putF "source" (.str (fedS src)) []).lookup ("source" : Str) = some (.str (fedS src)) := by rw [lookup_putF, if_pos rfl]
    generalize putF "source" (.str (fedS src)) [] = f2 at o2 ex2 hd2 e2 l2 k2 ⊢
    generalize upd H1 x (.ins C_Example dx f2) = H2 at o2 ex2 hd2 e2 ⊢
    clear ex2
    refine ⟨fun σ H3 => ∃ f3 : List (Str × V), σ = [some (.ref x), some (.str src), some (.str wt), some er, some (.int n), some (.int i), some op, some (.ref d)] ∧ Out x H H3 ∧ H3 d = some (.dK []) ∧ H3 x = some (.ins C_Example dx f3) ∧ f3.length ≤ 2 ∧ f3.lookup ("source" : Str) = some (.str (fedS src)) ∧ f3.lookup ("want" : Str) = some (.str (wantS wt)), ?_, ?_⟩
    · have fin : ∀ y : Str, y = wantS wt → ∃ f3 : List (Str × V), [some (V.ref x), some (.str src), some (.str wt), some er, some (.int n), some (.int i), some op, some (.ref d)] = [some (.ref x), some (.str src), some (.str wt), some er, some (.int n), some (.int i), some op, some (.ref d)] ∧ Out x H (upd H2 x (.ins C_Example dx (putF "want" (.str y) f2))) ∧ (upd H2 x (.ins C_Example dx (putF "want" (.str y) f2))) d = some (.dK []) ∧ (upd H2 x (.ins C_Example dx (putF "want" (.str y) f2))) x = some (.ins C_Example dx f3) ∧ f3.length ≤ 2 ∧ f3.lookup ("source" : Str) = some (.str (fedS src)) ∧ f3.lookup ("want" : Str) = some (.str (wantS wt)) := fun y hy => by
        subst hy
        exact ⟨_, rfl, o2.put, (Out.put (fun b o e _ => e) : Out x H2 _) _ _ hd2 xd, upd_same, put_len l2, by rw [lookup_putF, if_neg (by decide +kernel), k2], by rw [lookup_putF, if_pos rfl]⟩
      refine ⟨.str wt, rfl, _, ⟨line_of (by omega), rfl⟩, ?_⟩
      cases hc : ((wt.length : Int) != 0) with
      | true => exact iteT ⟨.str wt, rfl, wt, rfl, lw, .ref x, rfl, x, C_Example, dx, f2, rfl, e2, T_Example.cl, T_Example.n_want, by omega, fin _ (by unfold wantS; rw [hc]; rfl)⟩
      | false => exact iteF ⟨.str wt, rfl, .ref x, rfl, x, C_Example, dx, f2, rfl, e2, T_Example.cl, T_Example.n_want, by omega, fin _ (by unfold wantS; rw [hc]; rfl)⟩
    rintro σ H3 ⟨f3, rfl, o3, hd3, e3, l3, k3, w3⟩
    clear e2 l2 k2 o2 hd2
    refine ⟨fun σ H4 => ∃ f4 : List (Str × V), σ = [some (.ref x), some (.str src), some (.str wt), some er, some (.int n), some (.int i), some op, some (.ref d)] ∧ Out x H H4 ∧ H4 d = some (.dK []) ∧ H4 x = some (.ins C_Example dx f4) ∧ f4.length ≤ 3 ∧ f4.lookup ("source" : Str) = some (.str (fedS src)) ∧ f4.lookup ("want" : Str) = some (.str (wantS wt)) ∧ f4.lookup ("error" : Str) = some (errS er), ?_, ?_⟩
    · have fin : ∀ y : V, y = errS er → ∃ f4 : List (Str × V), [some (V.ref x), some (.str src), some (.str wt), some er, some (.int n), some (.int i), some op, some (.ref d)] = [some (.ref x), some (.str src), some (.str wt), some er, some (.int n), some (.int i), some op, some (.ref d)] ∧ Out x H (upd H3 x (.ins C_Example dx (putF "error" y f3))) ∧ (upd H3 x (.ins C_Example dx (putF "error" y f3))) d = some (.dK []) ∧ (upd H3 x (.ins C_Example dx (putF "error" y f3))) x = some (.ins C_Example dx f4) ∧ f4.length ≤ 3 ∧ f4.lookup ("source" : Str) = some (.str (fedS src)) ∧ f4.lookup ("want" : Str) = some (.str (wantS wt)) ∧ f4.lookup ("error" : Str) = some (errS er) := fun y hy => by
        subst hy
        exact ⟨_, rfl, o3.put, (Out.put (fun b o e _ => e) : Out x H3 _) _ _ hd3 xd, upd_same, put_len l3, by rw [lookup_putF, if_neg (by decide +kernel), k3], by rw [lookup_putF, if_neg (by decide +kernel), w3], by rw [lookup_putF, if_pos rfl]⟩
      rcases he with rfl | ⟨e, rfl, le⟩
      · exact ⟨.non, rfl, rfl, _, rfl, iteT ⟨.ref x, rfl, x, C_Example, dx, f3, rfl, e3, T_Example.cl, T_Example.n_error, by omega, fin _ rfl⟩⟩
      · refine ⟨.str e, rfl, rfl, _, rfl, ?_⟩
        rw [decide_eq_false (show V.str e ≠ V.non from nofun)]
        exact iteF ⟨.str e, rfl, e, rfl, le, .ref x, rfl, x, C_Example, dx, f3, rfl, e3, T_Example.cl, T_Example.n_error, by omega, fin _ rfl⟩
    rintro σ H4 ⟨f4, rfl, o4, hd4, e4, l4, k4, w4, r4⟩
    clear e3 l3 k3 w3 o3 hd3
    refine ⟨.int n, rfl, .ref x, rfl, x, C_Example, dx, f4, rfl, e4, T_Example.cl, T_Example.n_line, by omega, ?_⟩
    have hd5 := (Out.put (fun b o e _ => e) : Out x H4 (upd H4 x (.ins C_Example dx (putF "line" (.int n) f4)))) _ _ hd4 xd
    have o5 : Out x H (upd H4 x (.ins C_Example dx (putF "line" (.int n) f4))) := o4.put
    have e5 : (upd H4 x (.ins C_Example dx (putF "line" (.int n) f4))) x = some (.ins C_Example dx (putF "line" (.int n) f4)) := upd_same
    have l5 := put_len (f := "line") (v := .int n) l4
    have k5 : (putF "line" (.int n) f4).lookup ("source" : Str) = some (.str (fedS src)) := by rw [lookup_putF, if_neg (by decide +kernel), k4]
    have w5 : (putF "line" (.int n) f4).lookup ("want" : Str) = some (.str (wantS wt)) := by rw [lookup_putF, if_neg (by decide +kernel), w4]
    have n5 : (putF "line" (.int n) f4).lookup ("line" : Str) = some (.int n) := by rw [lookup_putF, if_pos rfl]
    have r5 : (putF "line" (.int n) f4).lookup ("error" : Str) = some (errS er) := by rw [lookup_putF, if_neg (by decide +kernel), r4]
    generalize putF "line" (.int n) f4 = f5 at hd5 o5 e5 l5 k5 w5 n5 r5 ⊢
    generalize upd H4 x (.ins C_Example dx f5) = H5 at hd5 o5 e5 ⊢
    refine ⟨.int i, rfl, .ref x, rfl, x, C_Example, dx, f5, rfl, e5, T_Example.cl, T_Example.n_indent, by omega, ?_⟩
    have hd6 := (Out.put (fun b o e _ => e) : Out x H5 (upd H5 x (.ins C_Example dx (putF "indent" (.int i) f5)))) _ _ hd5 xd
    have o6 : Out x H (upd H5 x (.ins C_Example dx (putF "indent" (.int i) f5))) := o5.put
    have e6 : (upd H5 x (.ins C_Example dx (putF "indent" (.int i) f5))) x = some (.ins C_Example dx (putF "indent" (.int i) f5)) := upd_same
    have l6 := put_len (f := "indent") (v := .int i) l5
    have k6 : (putF "indent" (.int i) f5).lookup ("source" : Str) = some (.str (fedS src)) := by rw [lookup_putF, if_neg (by decide +kernel), k5]
    have w6 : (putF "indent" (.int i) f5).lookup ("want" : Str) = some (.str (wantS wt)) := by rw [lookup_putF, if_neg (by decide +kernel), w5]
    have n6 : (putF "indent" (.int i) f5).lookup ("line" : Str) = some (.int n) := by rw [lookup_putF, if_neg (by decide +kernel), n5]
    have i6 : (putF "indent" (.int i) f5).lookup ("indent" : Str) = some (.int i) := by rw [lookup_putF, if_pos rfl]
    have r6 : (putF "indent" (.int i) f5).lookup ("error" : Str) = some (errS er) := by rw [lookup_putF, if_neg (by decide +kernel), r5]
    generalize putF "indent" (.int i) f5 = f6 at hd6 o6 e6 l6 k6 w6 n6 i6 r6 ⊢
    generalize upd H5 x (.ins C_Example dx f6) = H6 at hd6 o6 e6 ⊢
    refine ⟨.ref d, rfl, d, [], rfl, Rd.of hd6, fun p np => ⟨.ref x, rfl, x, C_Example, dx, f6, rfl, same_new np _ _ e6, T_Example.cl, T_Example.n_options, by omega, ?_⟩⟩
    have o7 : Out x H (upd (upd H6 p (.dK [])) x (.ins C_Example dx (putF "options" (.ref p) f6))) := (o6.same (same_new np)).put
    have e7 : (upd (upd H6 p (.dK [])) x (.ins C_Example dx (putF "options" (.ref p) f6))) x = some (.ins C_Example dx (putF "options" (.ref p) f6)) := upd_same
    have l7 := put_len (f := "options") (v := .ref p) l6
    have k7 : (putF "options" (.ref p) f6).lookup ("source" : Str) = some (.str (fedS src)) := by rw [lookup_putF, if_neg (by decide +kernel), k6]
    have w7 : (putF "options" (.ref p) f6).lookup ("want" : Str) = some (.str (wantS wt)) := by rw [lookup_putF, if_neg (by decide +kernel), w6]
    have n7 : (putF "options" (.ref p) f6).lookup ("line" : Str) = some (.int n) := by rw [lookup_putF, if_neg (by decide +kernel), n6]
    have i7 : (putF "options" (.ref p) f6).lookup ("indent" : Str) = some (.int i) := by rw [lookup_putF, if_neg (by decide +kernel), i6]
    have p7 : (putF "options" (.ref p) f6).lookup ("options" : Str) = some (.ref p) := by rw [lookup_putF, if_pos rfl]
    have px : p ≠ x := fun z => by rw [z, e6] at np; cases np
    have ep7 : (upd (upd H6 p (.dK [])) x (.ins C_Example dx (putF "options" (.ref p) f6))) p = some (.dK []) := by rw [upd_ne px]; exact upd_same
    have r7 : (putF "options" (.ref p) f6).lookup ("error" : Str) = some (errS er) := by rw [lookup_putF, if_neg (by decide +kernel), r6]
    generalize putF "options" (.ref p) f6 = f7 at o7 e7 l7 k7 w7 n7 i7 p7 ep7 r7 ⊢
    generalize upd (upd H6 p (.dK [])) x (.ins C_Example dx f7) = H7 at o7 e7 ep7 ⊢
    refine ⟨.ref x, rfl, x, C_Example, dx, f7, _, rfl, e7, T_Example.cl, T_Example.n_source, k7, fedS src, init, last, rfl, xe, h10, hsl, fun H8 s8 => ?_⟩
    have o8 := o7.same s8
    have e8 := s8 _ _ e7
    refine ⟨.ref x, rfl, x, C_Example, dx, f7, rfl, e8, T_Example.cl, T_Example.n_bare, by omega, k _ (putF "bare" (.str (bareT init last)) f7) o8.put upd_same ⟨?_, ?_, ?_, ?_, ?_, ⟨p, ?_, ?_⟩, ?_⟩⟩
    · rw [lookup_putF, if_neg (by decide +kernel), k7]
    · rw [lookup_putF, if_neg (by decide +kernel), w7]
    · rw [lookup_putF, if_neg (by decide +kernel), r7]
    · rw [lookup_putF, if_neg (by decide +kernel), n7]
    · rw [lookup_putF, if_neg (by decide +kernel), i7]
    · rw [lookup_putF, if_neg (by decide +kernel), p7]
    · rw [upd_ne px]
      exact s8 _ _ ep7
    · rw [lookup_putF, if_pos rfl]
def sp_is_word_sign : Sp := fun vs H Q _ => ∃ c : Nat, vs = [.str ⟨#[c]⟩] ∧ Q (.bl (c == 95 || Txt.isalnum ⟨#[c]⟩)) H
theorem ok_is_word_sign {f : Addr} {fd : FuncData} {dvs : List V} (F : Fn K "is_word_sign" s_is_word_sign dvs f fd) : FnOk P w K mg base CX0 1 f fd ["sign"] (sp_is_word_sign) := by
  refine Fn.okN F sc_is_word_sign (fun vs H Q E h => ?_) (fun cdv A outer s H vs Q E hr h => ?_)
  · obtain ⟨_, rfl, _⟩ := h
    rfl
  · obtain ⟨c, rfl, k⟩ := h
    refine ⟨_, (pss_one (ps_ret (pe_or (pe_cmpR op_eq (pv 0) pe_str (nomark _)) (pe_one (pe_m0 PySem.F.slot_str_isalnum PySem.F.type_str_isalnum mt_isalnum (pv 0)))))), ?_⟩
    refine ⟨.str ⟨#[c]⟩, rfl, rfl, _, rfl, ?_⟩
    rw [us_dec]
    cases h : (c == 95) with
    | true =>
      rw [h, Bool.true_or] at k
      exact iteT k
    | false =>
      rw [h, Bool.false_or] at k
      exact iteF ⟨.str ⟨#[c]⟩, rfl, ⟨_, rfl⟩, _, rfl, rfl, trivial, k⟩
def sp_error_of : Sp := fun vs H Q _ => ∃ (x : Str) (init : List (List Nat)) (last : List Nat), vs = [.str x] ∧ tl x = joinL [10] (init ++ [last]) ∧ Rows10 (init ++ [last]) ∧ x.length ≤ 10000 ∧ ∀ H', Same H H' → Q (optV (errP (keptOf init last))) H'
theorem ok_error_of {f : Addr} {fd : FuncData} {dvs : List V} (F : Fn K "error_of" s_error_of dvs f fd) (O_kept_lines : Own P w K mg base "kept_lines" 1 ["text"] [] (sp_kept_lines)) (O_is_word_sign : Own P w K mg base "is_word_sign" 1 ["sign"] [] (sp_is_word_sign)) (m_len : mg "len" = none) (m_range : mg "range" = none) {a_HEADERS : Addr} (c_HEADERS : mg "HEADERS" = some (.ref a_HEADERS)) (q_HEADERS : ∀ H, SqT K H a_HEADERS (v_HEADERS.map V.str)) : FnOk P w K mg base CX0 2 f fd ["want"] (sp_error_of) := by
  refine Fn.okN F sc_error_of (fun vs H Q E h => ?_) (fun cdv A outer s H vs Q E hr h => ?_)
  · obtain ⟨_, _, _, rfl, _⟩ := h
    rfl
  · obtain ⟨x, init, last, rfl, ex, h10, hx, k⟩ := h
    refine ⟨_, (pss_cons (ps_set (i := 1) sc_error_of.nd rfl (.inl rfl) (pe_own O_kept_lines (hr.mono (by decide)) (by rfl) (pa_cons (pv 0) pa_nil)))
      (pss_cons (ps_if (PW.pt (pw_or (pt_not (pt_tr (K' := K) (pv 1))) (pw_or1 (pt_cmpR op_notIn_seq (pe_m1 PySem.F.slot_str_rstrip PySem.F.type_str_rstrip mt_rstripChars (pe_m1 PySem.F.slot_str_removesuffix PySem.F.type_str_removesuffix mt_removesuffix (pe_ix ix_list (pv 1) pe_int (fun _ _ => rfl)) pe_str) pe_str) (pe_glob (v := .ref a_HEADERS) rfl c_HEADERS rfl) rfl))))
          (pss_one (ps_ret pe_non))
          pss_nil)
      (pss_cons (ps_for PassesOwn.never rfl (pi_range2 rfl m_range (pa_cons pe_int (pa_cons (pe_callB call_len_seq (by rfl) m_len PySem.boot_len (pa_cons (pv 1) pa_nil)) pa_nil))) (pg_name (i := 2) sc_error_of.nd rfl (.inl rfl))
          (pss_one (ps_if (pt_val (pe_own O_is_word_sign (hr.mono (by decide)) (by rfl) (pa_cons (pe_ix ix_str (pe_ix ix_list (pv 1) (pv 2) (fun _ _ => rfl)) pe_int (fun _ _ => rfl)) pa_nil)))
                (pss_one (ps_ret (pe_m1 PySem.F.slot_str_join PySem.F.type_str_join mt_join pe_str (pe_slice sl_list (pv 1) (po_some (pv 2)) po_none))))
                pss_nil)))
      (pss_one (ps_ret pe_non))))), ?_⟩
    have lt : (tl x).length ≤ 10000 := by rw [← len_tl]; exact hx
    have jp := join_parts (init ++ [last])
    have ks := kept_sum init last
    rw [← ex] at jp ks
    rw [List.length_append] at jp
    have hne := kept_ne init last
    have kn : (keptOf init last).length ≤ 10002 := by
      have : [last].length = 1 := rfl
      unfold keptOf ifAny
      rw [List.length_append, List.length_map]
      split
      · show _ + 0 ≤ _
        omega
      · show _ + 1 ≤ _
        omega
    refine ⟨.str x, rfl, x, init, last, rfl, ex, h10, hx, fun H1 p s1 np ep => ?_⟩
    generalize keptOf init last = L at ks hne kn ep k
    cases L with
    | nil => exact ⟨.ref p, rfl, _, .inl ⟨[], SqL.of ep, rfl⟩, iteT (iteT (k _ s1))⟩
    | cons h r =>
      have hh : h.length ≤ 10000 := by
        have : ((h :: r).map (·.length)).sum = h.length + (r.map (·.length)).sum := rfl
        omega
      have hrl : ∀ l ∈ r, l.length ≤ 10000 := fun l hl => by
        have e1 : ((h :: r).map (·.length)).sum = h.length + (r.map (·.length)).sum := rfl
        have e2 : l.length ≤ (r.map (·.length)).sum := le_sum hl
        omega
      have eh : inV (.str (Txt.rstripChars (Txt.removesuffix (mk h) "\n") " ")) (v_HEADERS.map V.str) = isHead (noNl h) := by
        unfold isHead noNl
        rw [mk_tl']
      refine ⟨.ref p, rfl, _, .inl ⟨_, SqL.of ep, rfl⟩, iteF ⟨.ref p, rfl, p, _, 0, .str (mk h), rfl, rfl, SqL.of ep, atI_nat (j := 0) rfl, ⟨_, rfl⟩, mk h, "\n", rfl, rfl, by rw [mk_len]; exact line_of (by omega), ⟨_, rfl⟩, _, " ", rfl, rfl, ?_, a_HEADERS, _, rfl, .inr (q_HEADERS _), rfl, rfl, _, rfl, ?_⟩⟩
      · have : (Txt.removesuffix (mk h) "\n").length ≤ (mk h).length := rsuf_len _ _
        rw [mk_len] at this
        exact line_of (by omega)
      rw [eh]
      unfold errP at k
      dsimp only at k
      cases hd : isHead (noNl h) with
      | false =>
        rw [hd] at k
        exact iteT (k _ s1)
      | true =>
        rw [hd, if_pos rfl] at k
        have hlen : (((h :: r).map mk).map V.str).length = r.length + 1 := by rw [List.length_map, List.length_map]; rfl
        rw [List.length_cons] at kn
        have hne2 : ∀ l ∈ r, l ≠ [] := fun l hl => hne l (List.mem_cons_of_mem _ hl)
        refine iteF ⟨.ref p, rfl, p, _, rfl, .inl (SqL.of ep), ?_⟩
        rw [hlen]
        refine ⟨1, ((r.length + 1 : Nat) : Int), rfl, ⟨by decide, by decide, by omega, by omega⟩, for_range (lo := 1) (n := (((r.length + 1 : Nat) : Int) - 1).toNat) (fun i σ H2 => ∃ v2, σ = [some (.str x), some (.ref p), v2] ∧ Same H1 H2 ∧ ∀ j l, j < i → r[j]? = some l → wordS l = false) ⟨_, rfl, fun _ _ e => e, fun j l a _ => absurd a (Nat.not_lt_zero _)⟩ ?_ ?_⟩
        · rintro i σ H2 hi ⟨v2, rfl, s2, hb⟩
          have hir : i < r.length := by omega
          have ei : (1 : Int) + (i : Nat) = ((i + 1 : Nat) : Int) := by omega
          have hl : r[i]? = some r[i] := List.getElem?_eq_getElem hir
          have hm := List.mem_of_getElem? hl
          have hg : (((h :: r).map mk).map V.str)[i + 1]? = some (.str (mk r[i])) := by
            rw [List.getElem?_map, List.getElem?_map, List.getElem?_cons_succ, hl]
            rfl
          have hll := hrl _ hm
          have hn := hne2 _ hm
          generalize r[i] = l at hl hm hg hll hn
          rw [ei]
          cases l with
          | nil => exact absurd rfl hn
          | cons c l' =>
            refine ⟨.ref p, rfl, .int ((i + 1 : Nat) : Int), rfl, p, _, _, .str (mk (c :: l')), rfl, rfl, SqL.of (s2 _ _ ep), atI_nat hg, mk (c :: l'), 0, c, rfl, rfl, by rw [mk_len]; exact line_of (by omega), atI_nat (j := 0) rfl, c, rfl, _, rfl, ?_⟩
            show if wordS (c :: l') = true then _ else _
            cases hw : wordS (c :: l') with
            | false =>
              refine iteF ⟨_, rfl, s2, fun j l hj hjl => ?_⟩
              rcases Nat.lt_or_ge j i with a | a
              · exact hb j l a hjl
              · have : j = i := by omega
                rw [this, hl] at hjl
                cases hjl
                exact hw
            | true =>
              have dw : (r.dropWhile fun l => !wordS l) = r.drop i := dropWhile_at hl (by rw [hw]; rfl) fun j l' hj hjl => by rw [hb j l' hj hjl]; rfl
              have dc : r.drop i = (c :: l') :: r.drop (i + 1) := by
                rw [List.drop_eq_getElem_cons hir]
                rw [List.getElem?_eq_getElem hir] at hl
                rw [Option.some.inj hl]
              rw [dw] at k
              have ev : optV (flatO (r.drop i)) = .str (mk (joinL [] (r.drop i))) := by rw [dc]; rfl
              rw [ev] at k
              refine iteT ⟨⟨_, rfl⟩, .ref p, rfl, .int ((i + 1 : Nat) : Int), rfl, _, rfl, p, _, rfl, SqL.of (s2 _ _ ep), fun q nq => ?_⟩
              have ec : cutV (((h :: r).map mk).map V.str) (some ((i + 1 : Nat) : Int)) none = ((r.drop i).map mk).map V.str := by
                rw [cutV_drop _ _ (by rw [hlen]; omega), List.map_drop, List.map_drop]
                rfl
              have sq := same_new (o := .lst (((r.drop i).map mk).map V.str)) nq
              rw [ec]
              refine ⟨"", q, (r.drop i).map mk, rfl, rfl, .inl (SqL.of upd_same), ?_, ?_⟩
              · have a1 := drop_sum r i
                have a2 : ((h :: r).map (·.length)).sum = h.length + (r.map (·.length)).sum := rfl
                have e0 : ("" : Str).length = 0 := by decide +kernel
                rw [e0, Nat.mul_zero, List.map_map]
                show ((r.drop i).map (·.length)).sum + 0 ≤ _
                omega
              · have e0 : ("" : Str) = mk [] := ext_tl (by decide +kernel)
                rw [e0, join_mk]
                exact k _ (s1.trans (s2.trans sq))
        · rintro σ H2 ⟨v2, rfl, s2, hb⟩
          rw [dropWhile_none (fun l hl => ?_)] at k
          · exact k _ (s1.trans s2)
          · obtain ⟨j, hj, e⟩ := List.getElem_of_mem hl
            rw [hb j l (by omega) (by rw [List.getElem?_eq_getElem hj, e])]
            rfl
/-- the fields of a comment -/
structure CoF (fs : List (Str × V)) (src wt : Str) (n i : Int) : Prop where
  source : fs.lookup ("source" : Str) = some (.str src)
  want : fs.lookup ("want" : Str) = some (.str wt)
  line : fs.lookup ("line" : Str) = some (.int n)
  indent : fs.lookup ("indent" : Str) = some (.int i)
def sp_Comment_init (C : Addr) : Sp := fun vs H Q _ => ∃ (x dx : Addr) (src wt : Str) (n i : Int), vs = [.ref x, .str src, .str wt, .int n, .int i] ∧ src.length ≤ 100000 ∧ wt.length ≤ 100000 ∧
  H x = some (.ins C dx []) ∧ ∀ (H' : Hp) (fs : List (Str × V)), (∀ b o, H b = some o → b ≠ x → H' b = some o) → H' x = some (.ins C dx fs) → CoF fs (fedS src) (wantS wt) n i → Q .non H'
theorem ok_Comment_init {f : Addr} {fd : FuncData} {dvs : List V} {kws : List (Str × V)} (F : FunD K "__init__" "Comment.__init__" (defArgs s_Comment_init) (defBody s_Comment_init) (defScope s_Comment_init) dvs kws f fd) {C_Comment : Addr} (T_Comment : Txt_Comment K mg C_Comment) (O_fed : Own P w K mg base "fed" 1 ["text"] [] (sp_fed)) : FnOk P w K mg base CX0 2 f fd ["self", "source", "want", "line", "indent"] (sp_Comment_init C_Comment) := by
  refine FunD_okN F sc_Comment_init (fun vs H Q E h => ?_) (fun cdv A outer s H vs Q E hr h => ?_)
  · obtain ⟨_, _, _, _, _, _, rfl, _⟩ := h
    rfl
  · obtain ⟨x, dx, src, wt, n, i, rfl, tn, lw, hx, k⟩ := h
    refine ⟨_, (pss_cons (ps_fld (pv 0) (pe_own O_fed (hr.mono (by decide)) (by rfl) (pa_cons (pv 1) pa_nil)) rfl)
      (pss_cut (ps_fld (pv 0) (pe_ifExp (pt_tr (K' := K) (pv 2)) (pe_own O_fed (hr.mono (by decide)) (by rfl) (pa_cons (pv 2) pa_nil)) (pv 2)) rfl)
      (pss_cons (ps_fld (pv 0) (pv 3) rfl)
      (pss_one (ps_fld (pv 0) (pv 4) rfl))))), ?_⟩
    refine ⟨.str src, rfl, src, rfl, tn, .ref x, rfl, x, C_Comment, dx, [], rfl, hx, T_Comment.cl, T_Comment.n_source, by decide, ?_⟩
    have o2 : Out x H (upd H x (.ins C_Comment dx (putF "source" (.str (fedS src)) []))) := Out.put (fun b o e _ => e)
    have e2 : (upd H x (.ins C_Comment dx (putF "source" (.str (fedS src)) []))) x = some (.ins C_Comment dx (putF "source" (.str (fedS src)) [])) := upd_same
    have l2 : (putF "source" (.str (fedS src)) []).length ≤ 1 := put_len (Nat.le_refl 0)
    have k2 : (putF "source" (.str (fedS src)) []).lookup ("source" : Str) = some (.str (fedS src)) := by rw [lookup_putF, if_pos rfl]
    generalize putF "source" (.str (fedS src)) [] = f2 at o2 e2 l2 k2 ⊢
    generalize upd H x (.ins C_Comment dx f2) = H2 at o2 e2 ⊢
    refine ⟨fun σ H3 => ∃ f3 : List (Str × V), σ = [some (.ref x), some (.str src), some (.str wt), some (.int n), some (.int i)] ∧ Out x H H3 ∧ H3 x = some (.ins C_Comment dx f3) ∧ f3.length ≤ 2 ∧ f3.lookup ("source" : Str) = some (.str (fedS src)) ∧ f3.lookup ("want" : Str) = some (.str (wantS wt)), ?_, ?_⟩
    · have fin : ∀ y : Str, y = wantS wt → ∃ f3 : List (Str × V), [some (V.ref x), some (.str src), some (.str wt), some (.int n), some (.int i)] = [some (.ref x), some (.str src), some (.str wt), some (.int n), some (.int i)] ∧ Out x H (upd H2 x (.ins C_Comment dx (putF "want" (.str y) f2))) ∧ (upd H2 x (.ins C_Comment dx (putF "want" (.str y) f2))) x = some (.ins C_Comment dx f3) ∧ f3.length ≤ 2 ∧ f3.lookup ("source" : Str) = some (.str (fedS src)) ∧ f3.lookup ("want" : Str) = some (.str (wantS wt)) := fun y hy => by
        subst hy
        exact ⟨_, rfl, o2.put, upd_same, put_len l2, by rw [lookup_putF, if_neg (by decide +kernel), k2], by rw [lookup_putF, if_pos rfl]⟩
      refine ⟨.str wt, rfl, _, ⟨line_of (by omega), rfl⟩, ?_⟩
      cases hc : ((wt.length : Int) != 0) with
      | true => exact iteT ⟨.str wt, rfl, wt, rfl, lw, .ref x, rfl, x, C_Comment, dx, f2, rfl, e2, T_Comment.cl, T_Comment.n_want, by omega, fin _ (by unfold wantS; rw [hc]; rfl)⟩
      | false => exact iteF ⟨.str wt, rfl, .ref x, rfl, x, C_Comment, dx, f2, rfl, e2, T_Comment.cl, T_Comment.n_want, by omega, fin _ (by unfold wantS; rw [hc]; rfl)⟩
    rintro σ H3 ⟨f3, rfl, o3, e3, l3, k3, w3⟩
    clear e2 l2 k2 o2
    refine ⟨.int n, rfl, .ref x, rfl, x, C_Comment, dx, f3, rfl, e3, T_Comment.cl, T_Comment.n_line, by omega, ?_⟩
    have o4 : Out x H (upd H3 x (.ins C_Comment dx (putF "line" (.int n) f3))) := o3.put
    have e4 : (upd H3 x (.ins C_Comment dx (putF "line" (.int n) f3))) x = some (.ins C_Comment dx (putF "line" (.int n) f3)) := upd_same
    have l4 := put_len (f := "line") (v := .int n) l3
    refine ⟨.int i, rfl, .ref x, rfl, x, C_Comment, dx, putF "line" (.int n) f3, rfl, e4, T_Comment.cl, T_Comment.n_indent, by omega, k _ _ o4.put upd_same ⟨?_, ?_, ?_, ?_⟩⟩
    · rw [lookup_putF, if_neg (by decide +kernel), lookup_putF, if_neg (by decide +kernel), k3]
    · rw [lookup_putF, if_neg (by decide +kernel), lookup_putF, if_neg (by decide +kernel), w3]
    · rw [lookup_putF, if_neg (by decide +kernel), lookup_putF, if_pos rfl]
    · rw [lookup_putF, if_pos rfl]
theorem joinL_sum : ∀ d : List (List Nat), (joinL [] d).length = (d.map (·.length)).sum
  | [] => rfl
  | a :: r => by rw [joinL_flat, List.length_append, joinL_sum r, List.map_cons, List.sum_cons]
theorem sum_dropW (p : List Nat → Bool) : ∀ r : List (List Nat), ((r.dropWhile p).map (·.length)).sum ≤ (r.map (·.length)).sum
  | [] => Nat.le_refl _
  | a :: r => by
    have ih := sum_dropW p r
    rw [List.dropWhile_cons, List.map_cons, List.sum_cons]
    split
    · omega
    · rw [List.map_cons, List.sum_cons]
      omega
theorem errP_len {R : List (List Nat)} {l : List Nat} (h : errP R = some l) : l.length ≤ (R.map (·.length)).sum := by
  cases R with
  | nil => cases h
  | cons a r =>
    have h2 : (if isHead (noNl a) = true then flatO (r.dropWhile fun l => !wordS l) else none) = some l := h
    have e := sum_dropW (fun l => !wordS l) r
    rw [List.map_cons, List.sum_cons]
    generalize r.dropWhile (fun l => !wordS l) = d at e h2
    split at h2
    · cases d with
      | nil => cases h2
      | cons b q =>
        have h3 : joinL [] (b :: q) = l := Option.some.inj h2
        rw [← h3, joinL_sum]
        omega
    · cases h2
def srcL (ws : List (List Nat)) (a m n : Nat) : List (List Nat) := ((ws.drop a).take (m - a)).map (·.drop n)
def rowsT (ls : List (List Nat)) : Str := mk (joinL [] (ls.map (· ++ [10])))
theorem seg_sum (ws : List (List Nat)) (a k n : Nat) : ((((ws.drop a).take k).map (·.drop n)).map (·.length)).sum ≤ (ws.map (·.length)).sum := by
  have h1 := drop_sum ws a
  generalize ws.drop a = x at h1 ⊢
  have h2 : ((x.take k).map (·.length)).sum ≤ (x.map (·.length)).sum := by
    have e := congrArg List.sum (congrArg (List.map (·.length)) (List.take_append_drop k x))
    rw [List.map_append, List.sum_append] at e
    omega
  have h3 := sum_map_le (fun l : List Nat => (l.drop n).length) (fun l => l.length) (x.take k) fun l _ => by
    show (l.drop n).length ≤ l.length
    rw [List.length_drop]
    omega
  rw [List.map_map]
  exact Nat.le_trans h3 (Nat.le_trans h2 h1)
theorem seg_mem {ws : List (List Nat)} {a k n : Nat} {l : List Nat} (h : l ∈ ((ws.drop a).take k).map (·.drop n)) : ∃ l' ∈ ws, l = l'.drop n := by
  obtain ⟨l', h1, rfl⟩ := List.mem_map.mp h
  exact ⟨l', List.mem_of_mem_drop (List.mem_of_mem_take h1), rfl⟩
theorem seg_len (ws : List (List Nat)) (a k n : Nat) : (((ws.drop a).take k).map (·.drop n)).length ≤ ws.length := by
  rw [List.length_map, List.length_take, List.length_drop]
  omega
def sp_piece_at (C D : Addr) : Sp := fun vs H Q _ => ∃ (p t : Addr) (ws : List (List Nat)) (a m e n : Nat), vs = [.ref p, .ref t] ∧ H p = some (rowsV ws) ∧ H t = some (cutV3 (a, m, e)) ∧ Short ws ∧ RightCut ws a m e ∧ Rows10 ws ∧ (ws.map (·.length)).sum + ws.length ≤ 9500 ∧ (∀ l, ws[a]? = some l → lead l = n) ∧ (∀ l ∈ srcL ws a m (n + 4), dirS (mk l) = "") ∧
  ∀ (H' : Hp) (q dx : Addr) (fs : List (Str × V)), Same H H' → H q = none →
    (if (srcL ws a m (n + 4)).all remL = true then H' q = some (.ins D dx fs) ∧ CoF fs (rowsT (srcL ws a m (n + 4))) (rowsT (srcL ws m e n)) ((a + 1 : Nat) : Int) (n : Int)
      else H' q = some (.ins C dx fs) ∧ ExF H' fs (rowsT (srcL ws a m (n + 4))) (rowsT (srcL ws m e n)) (optV (errP ((srcL ws m e n).map (· ++ [10])))) ((a + 1 : Nat) : Int) (n : Int) (bareT (srcL ws a m (n + 4)) [])) → Q (.ref q) H'
theorem ok_piece_at {f : Addr} {fd : FuncData} {dvs : List V} (F : Fn K "piece_at" s_piece_at dvs f fd) {C_Example : Addr} (T_Example : Txt_Example K mg C_Example) {C_Comment : Addr} (T_Comment : Txt_Comment K mg C_Comment) (O_refuse_wrong_lines : Own P w K mg base "refuse_wrong_lines" 2 ["lines", "cut"] [] (sp_refuse_wrong_lines)) (O_indent_of : Own P w K mg base "indent_of" 1 ["line"] [] (sp_indent_of)) (O_options_of : Own P w K mg base "options_of" 3 ["source", "number"] [] (sp_options_of)) (O_is_remark : Own P w K mg base "is_remark" 3 ["source"] [] (sp_is_remark)) (O_Example_init : OwnC P w K mg base "Example" C_Example 4 ["self", "source", "want", "error", "line", "indent", "options"] ["error", "line", "indent", "options"] 2 (sp_Example_init C_Example)) (O_error_of : Own P w K mg base "error_of" 2 ["want"] [] (sp_error_of)) (O_Comment_init : OwnC P w K mg base "Comment" C_Comment 2 ["self", "source", "want", "line", "indent"] ["line", "indent"] 2 (sp_Comment_init C_Comment)) {t_AHEAD : Tok} (c_AHEAD : mg "AHEAD" = some (.int 4 t_AHEAD)) : FnOk P w K mg base CX0 6 f fd ["lines", "cut"] (sp_piece_at C_Example C_Comment) := by
  refine Fn.okN F sc_piece_at (fun vs H Q E h => ?_) (fun cdv A outer s H vs Q E hr h => ?_)
  · obtain ⟨_, _, _, _, _, _, _, rfl, _⟩ := h
    rfl
  · obtain ⟨p, t, ws, a, m, e, n, rfl, hp, ht, hs, rc, h10, hl, hn, hd, k⟩ := h
    refine ⟨_, (pss_cons (ps_expr (pe_own O_refuse_wrong_lines (hr.mono (by decide)) (by rfl) (pa_cons (pv 0) (pa_cons (pv 1) pa_nil))))
      (pss_cons (ps_asg (pv 1) (pg_tup rfl (pgs_cons (pg_name (i := 2) sc_piece_at.nd rfl (.inl rfl)) (pgs_cons (pg_name (i := 3) sc_piece_at.nd rfl (.inl rfl)) (pgs_cons (pg_name (i := 4) sc_piece_at.nd rfl (.inl rfl)) pgs_nil)))))
      (pss_cons (ps_set (i := 5) sc_piece_at.nd rfl (.inr rfl) (pe_own O_indent_of (hr.mono (by decide)) (by rfl) (pa_cons (pe_ix ix_list (pv 0) (pv 2) (fun _ _ => rfl)) pa_nil)))
      (pss_cons (ps_set (i := 6) sc_piece_at.nd rfl (.inl rfl) (pe_m1 PySem.F.slot_str_join PySem.F.type_str_join mt_join pe_str (pe_lc (own := [("line", 9)]) (g := gName 9) (tt := tYes) (by rfl) sc_piece_at.nd (pi_list (pe_slice sl_list (pv 0) (po_some (pv 2)) (po_some (pv 3)))) (blkOk_by (own := [("line", 9)]) (N := ["lines", "cut", "start", "middle", "end", "indent", "source", "want", "options", "line"]) (sc := defScope s_piece_at) (by decide +kernel)) (fun _ _ _ _ _ => (pg_name (i := 9) sc_piece_at.nd rfl (.inl rfl))) (fun _ _ _ _ _ => pts_nil) (fun _ _ _ _ _ => (pe_op op_add_str (pe_slice sl_str (pv 9) (po_some (pe_op op_add (pv 5) (pe_glob (v := .int 4) rfl c_AHEAD ⟨_, rfl⟩))) po_none) pe_str)))))
      (pss_cons (ps_set (i := 7) sc_piece_at.nd rfl (.inl rfl) (pe_m1 PySem.F.slot_str_join PySem.F.type_str_join mt_join pe_str (pe_lc (own := [("line", 9)]) (g := gName 9) (tt := tYes) (by rfl) sc_piece_at.nd (pi_list (pe_slice sl_list (pv 0) (po_some (pv 3)) (po_some (pv 4)))) (blkOk_by (own := [("line", 9)]) (N := ["lines", "cut", "start", "middle", "end", "indent", "source", "want", "options", "line"]) (sc := defScope s_piece_at) (by decide +kernel)) (fun _ _ _ _ _ => (pg_name (i := 9) sc_piece_at.nd rfl (.inl rfl))) (fun _ _ _ _ _ => pts_nil) (fun _ _ _ _ _ => (pe_op op_add_str (pe_slice sl_str (pv 9) (po_some (pv 5)) po_none) pe_str)))))
      (pss_cons (ps_set (i := 8) sc_piece_at.nd rfl (.inl rfl) (pe_own O_options_of (hr.mono (by decide)) (by rfl) (pa_cons (pv 6) (pa_cons (pe_op op_add (pv 2) pe_int) pa_nil))))
      (pss_cons (ps_if (pt_not (pt_val (pe_own O_is_remark (hr.mono (by decide)) (by rfl) (pa_cons (pv 6) pa_nil))))
          (pss_one (ps_ret (pe_ownC O_Example_init (hr.mono (by decide)) (by rfl) (pa_cons (pv 6) (pa_cons (pv 7) pa_nil)) (pk_cons (pe_own O_error_of (hr.mono (by decide)) (by rfl) (pa_cons (pv 7) pa_nil)) (pk_cons (pe_op op_add (pv 2) pe_int) (pk_cons (pv 5) (pk_cons (pv 8) pk_nil)))))))
          pss_nil)
      (pss_cons (ps_if (pt_tr (K' := K) (pv 8))
          (pss_one ps_never)
          pss_nil)
      (pss_one (ps_ret (pe_ownC O_Comment_init (hr.mono (by decide)) (by rfl) (pa_cons (pv 6) (pa_cons (pv 7) pa_nil)) (pk_cons (pe_op op_add (pv 2) pe_int) (pk_cons (pv 5) pk_nil))))))))))))), ?_⟩
    have am := rc.am
    have me := rc.me
    have ew := rc.ew
    have h1 := hs.1
    have hlen : ((ws.map mk).map V.str).length = ws.length := by rw [List.length_map, List.length_map]
    have ha : a < ws.length := by omega
    have hga : ((ws.map mk).map V.str)[a]? = some (.str (mk ws[a])) := by
      rw [List.getElem?_map, List.getElem?_map, List.getElem?_eq_getElem ha]
      rfl
    have la := hs.2 _ (List.getElem_mem ha)
    have e0 : lead (tl (mk ws[a])) = n := hn _ (List.getElem?_eq_getElem ha)
    refine ⟨.ref p, rfl, .ref t, rfl, p, t, ws, a, m, e, rfl, hp, ht, hs, rc, fun H1 s1 => ⟨.ref t, rfl, t, _, rfl, SqT.of (s1 _ _ ht), rfl, _, _, rfl, _, _, rfl, _, _, rfl, rfl, .ref p, rfl, .int (a : Int), rfl, p, _, _, .str (mk ws[a]), rfl, rfl, SqL.of (s1 _ _ hp), atI_nat hga, mk ws[a], rfl, by rw [mk_len]; omega, ?_⟩⟩
    rw [e0]
    have ec : ∀ x y : Nat, x ≤ y → y ≤ ws.length → cutV ((ws.map mk).map V.str) (some (x : Int)) (some (y : Int)) = (((ws.drop x).take (y - x)).map mk).map V.str := fun x y hx hy => by
      rw [cutV_seg _ x y hx (by rw [hlen]; exact hy), List.map_take, List.map_take, List.map_drop, List.map_drop]
    refine ⟨⟨_, rfl⟩, .ref p, rfl, .int (a : Int), rfl, _, rfl, .int (m : Int), rfl, _, rfl, p, _, rfl, SqL.of (s1 _ _ hp), fun b nb => ?_⟩
    rw [ec a m (by omega) (by omega)]
    have lb : ∀ x y, ∀ l ∈ (ws.drop x).take (y - x), l.length ≤ 10000 := fun x y l h => hs.2 l (List.mem_of_mem_drop (List.mem_of_mem_take h))
    have ln : ∀ x y, ((ws.drop x).take (y - x)).length ≤ 10000 := fun x y => by
      rw [List.length_take, List.length_drop]
      omega
    have sb := same_new (o := .lst ((((ws.drop a).take (m - a)).map mk).map V.str)) nb
    have lb1 := lb a m
    have ln1 := ln a m
    have S1 := seg_sum ws a (m - a) (n + 4)
    have S2 := seg_len ws a (m - a) (n + 4)
    have S0 : 1 ≤ (((ws.drop a).take (m - a)).map (·.drop (n + 4))).length := by
      rw [List.length_map, List.length_take, List.length_drop]
      omega
    have l1 : ("\n" : Str).length = 1 := rfl
    have e00 : ("" : Str) = mk [] := ext_tl (by decide +kernel)
    have el0 : ("" : Str).length = 0 := by decide +kernel
    have m1 : ∀ l ∈ srcL ws a m (n + 4), (10 : Nat) ∉ l := fun l hl h => by
      obtain ⟨l', h2, rfl⟩ := seg_mem hl
      exact h10 l' h2 (List.mem_of_mem_drop h)
    unfold srcL at hd k m1
    generalize (ws.drop a).take (m - a) = ra at sb lb1 ln1 S0 S1 S2 hd k m1 ⊢
    refine ⟨b, rfl, ⟨_, SqL.of upd_same⟩, fun M nM => lc_list (K := K) (a := b) (xs := (ra.map mk).map V.str) (fun i H4 => H4 M = some (rowsV (((ra.take i).map (·.drop (n + 4))).map (· ++ [10]))) ∧ Same (upd H1 b (.lst ((ra.map mk).map V.str))) H4) ⟨upd_same, same_new nM⟩ (fun i H4 _ h4 => SqL.of (h4.2 _ _ upd_same)) ?_ ?_⟩
    · rintro i v H4 hv ⟨eM, s4⟩
      obtain ⟨z, rfl, hz⟩ := str_at hv
      rw [List.getElem?_map] at hz
      obtain ⟨l, hl2, rfl⟩ := Option.map_eq_some_iff.mp hz
      have gl := lb1 l (List.mem_of_getElem? hl2)
      have ecl : cutS (mk l) (some ((n : Int) + 4)) none = mk (l.drop (n + 4)) := ext_tl (by rw [show ((n : Int) + 4) = ((n + 4 : Nat) : Int) by omega, cutS_from]; rfl)
      refine ⟨rfl, ?_⟩
      unfold tYes
      show ite (true = true) _ _
      rw [if_pos rfl]
      refine ⟨.str (mk l), rfl, .int (n : Int), rfl, _, _, rfl, rfl, _, rfl, mk l, rfl, by rw [mk_len]; exact line_of (by omega), _, _, rfl, rfl, ?_, _, eM, ?_, ?_, fun b o e => ?_⟩
      · rw [ecl, mk_len, l1, List.length_drop]
        exact line_of (by omega)
      · rw [List.length_map, List.length_map, List.length_map, List.length_map, List.length_take]
        exact Nat.lt_of_le_of_lt (show min i ra.length ≤ 10000 by omega) (by decide)
      · rw [upd_same, List.take_add_one, hl2, List.map_append, List.map_append]
        unfold rowsV
        rw [List.map_append, List.map_append, ecl]
        exact congrArg (fun v => some (HO.lst (((((ra.take i).map (·.drop (n + 4))).map (· ++ [10])).map mk).map V.str ++ [v]))) (congrArg V.str (ext_tl (by rw [tl_append]; rfl)))
      · rw [upd_ne (ne_of_none e nM)]
        exact s4 b o e
    rintro H4 ⟨eM, s4⟩
    rw [List.length_map, List.length_map, List.take_length] at eM
    generalize ra.map (·.drop (n + 4)) = sl at S0 S1 S2 hd k m1 eM
    have fl := flat_len sl
    refine ⟨"", M, (sl.map (· ++ [10])).map mk, rfl, rfl, .inl (SqL.of eM), ?_, ?_⟩
    · rw [el0, Nat.mul_zero, List.map_map]
      show ((sl.map (· ++ [10])).map (·.length)).sum + 0 ≤ _
      rw [sum_fed]
      omega
    rw [show Txt.join "" ((sl.map (· ++ [10])).map mk) = rowsT sl by rw [e00, join_mk]; rfl]
    have s14 : Same H H4 := s1.trans (sb.trans s4)
    clear s4 sb eM nb nM
    refine ⟨⟨_, rfl⟩, .ref p, rfl, .int (m : Int), rfl, _, rfl, .int (e : Int), rfl, _, rfl, p, _, rfl, SqL.of (s14 _ _ hp), fun b nb => ?_⟩
    rw [ec m e me ew]
    have sb := same_new (o := .lst ((((ws.drop m).take (e - m)).map mk).map V.str)) nb
    have lb2 := lb m e
    have ln2 := ln m e
    have S3 := seg_sum ws m (e - m) n
    have S4 := seg_len ws m (e - m) n
    have m2 : ∀ l ∈ srcL ws m e n, (10 : Nat) ∉ l := fun l hl h => by
      obtain ⟨l', h2, rfl⟩ := seg_mem hl
      exact h10 l' h2 (List.mem_of_mem_drop h)
    unfold srcL at m2
    generalize (ws.drop m).take (e - m) = ra at sb lb2 ln2 S3 S4 k m2 ⊢
    refine ⟨b, rfl, ⟨_, SqL.of upd_same⟩, fun M nM => lc_list (K := K) (a := b) (xs := (ra.map mk).map V.str) (fun i H5 => H5 M = some (rowsV (((ra.take i).map (·.drop n)).map (· ++ [10]))) ∧ Same (upd H4 b (.lst ((ra.map mk).map V.str))) H5) ⟨upd_same, same_new nM⟩ (fun i H5 _ h5 => SqL.of (h5.2 _ _ upd_same)) ?_ ?_⟩
    · rintro i v H5 hv ⟨eM, s5⟩
      obtain ⟨z, rfl, hz⟩ := str_at hv
      rw [List.getElem?_map] at hz
      obtain ⟨l, hl2, rfl⟩ := Option.map_eq_some_iff.mp hz
      have gl := lb2 l (List.mem_of_getElem? hl2)
      have ecl : cutS (mk l) (some (n : Int)) none = mk (l.drop n) := ext_tl (by rw [cutS_from]; rfl)
      refine ⟨rfl, ?_⟩
      unfold tYes
      show ite (true = true) _ _
      rw [if_pos rfl]
      refine ⟨.str (mk l), rfl, .int (n : Int), rfl, _, rfl, mk l, rfl, by rw [mk_len]; exact line_of (by omega), _, _, rfl, rfl, ?_, _, eM, ?_, ?_, fun b o e => ?_⟩
      · rw [ecl, mk_len, l1, List.length_drop]
        exact line_of (by omega)
      · rw [List.length_map, List.length_map, List.length_map, List.length_map, List.length_take]
        exact Nat.lt_of_le_of_lt (show min i ra.length ≤ 10000 by omega) (by decide)
      · rw [upd_same, List.take_add_one, hl2, List.map_append, List.map_append]
        unfold rowsV
        rw [List.map_append, List.map_append, ecl]
        exact congrArg (fun v => some (HO.lst (((((ra.take i).map (·.drop n)).map (· ++ [10])).map mk).map V.str ++ [v]))) (congrArg V.str (ext_tl (by rw [tl_append]; rfl)))
      · rw [upd_ne (ne_of_none e nM)]
        exact s5 b o e
    rintro H5 ⟨eM, s5⟩
    rw [List.length_map, List.length_map, List.take_length] at eM
    generalize ra.map (·.drop n) = wl at S3 S4 k m2 eM
    have fw := flat_len wl
    refine ⟨"", M, (wl.map (· ++ [10])).map mk, rfl, rfl, .inl (SqL.of eM), ?_, ?_⟩
    · rw [el0, Nat.mul_zero, List.map_map]
      show ((wl.map (· ++ [10])).map (·.length)).sum + 0 ≤ _
      rw [sum_fed]
      omega
    rw [show Txt.join "" ((wl.map (· ++ [10])).map mk) = rowsT wl by rw [e00, join_mk]; rfl]
    have s15 : Same H H5 := s14.trans (sb.trans s5)
    clear s5 sb eM nb nM
    have xs1 : tl (rowsT sl) = joinL [10] (sl ++ [[]]) := (join_ten sl).symm
    have xs2 : tl (rowsT wl) = joinL [10] (wl ++ [[]]) := (join_ten wl).symm
    have r1 : Rows10 (sl ++ [[]]) := fun l hl => by
      rcases List.mem_append.mp hl with h | h
      · exact m1 l h
      · rw [List.mem_singleton.mp h]
        exact nofun
    have r2 : Rows10 (wl ++ [[]]) := fun l hl => by
      rcases List.mem_append.mp hl with h | h
      · exact m2 l h
      · rw [List.mem_singleton.mp h]
        exact nofun
    have z1 : (rowsT sl).length ≤ 10000 := by
      show (mk _).length ≤ _
      rw [mk_len, fl]
      omega
    have z2 : (rowsT wl).length ≤ 10000 := by
      show (mk _).length ≤ _
      rw [mk_len, fw]
      omega
    have ro : ∀ ls : List (List Nat), rowsOf ls [] = ls := fun ls => by
      show ls ++ [] = ls
      rw [List.append_nil]
    have kp : keptOf wl [] = wl.map (· ++ [10]) := by
      show wl.map (· ++ [10]) ++ [] = _
      rw [List.append_nil]
    refine ⟨.str (rowsT sl), rfl, .int (a : Int), rfl, _, _, rfl, rfl, rowsT sl, sl, [], _, rfl, xs1, r1, z1, by rw [ro]; exact hd, fun H6 o s6 no eo => ⟨.str (rowsT sl), rfl, rowsT sl, sl, [], rfl, xs1, r1, z1, fun H7 s7 => ⟨_, rfl, ?_⟩⟩⟩
    rw [ro]
    have ea : (sl.map remL).all id = sl.all remL := by
      rw [List.all_map]
      rfl
    rw [ea]
    have s17 := s15.trans (s6.trans s7)
    have es : Txt.endswith (rowsT sl) "\n" = true := by
      obtain ⟨q, e⟩ := flat_ten sl (fun z => by rw [z] at S0; exact absurd S0 (by decide))
      unfold rowsT
      rw [e]
      exact ends_ten q
    have ew' : rowsT wl = "" ∨ Txt.endswith (rowsT wl) "\n" = true := by
      cases wl with
      | nil => exact .inl (by decide +kernel)
      | cons c r =>
        obtain ⟨q, e⟩ := flat_ten (c :: r) (by simp)
        unfold rowsT
        rw [e]
        exact .inr (ends_ten q)
    have errW : optV (errP (wl.map (· ++ [10]))) = .non ∨ ∃ e : Str, optV (errP (wl.map (· ++ [10]))) = .str e ∧ e.length ≤ 100000 := by
      cases he : errP (wl.map (· ++ [10])) with
      | none => exact .inl rfl
      | some l => exact .inr ⟨mk l, rfl, by
          have := errP_len he
          have e := sum_fed wl
          rw [mk_len]
          omega⟩
    show ite ((!sl.all remL) = true) _ _
    cases hr : sl.all remL with
    | false =>
      refine iteT ⟨.str (rowsT sl), rfl, .str (rowsT wl), rfl, .str (rowsT wl), rfl, rowsT wl, wl, [], rfl, xs2, r2, z2, fun H8 s8 => ?_⟩
      rw [kp]
      refine ⟨.int (a : Int), rfl, _, _, rfl, rfl, .int (n : Int), rfl, .ref o, rfl, rfl, rfl, fun x dx nx ndx ne => ⟨x, dx, .ref o, rowsT sl, rowsT wl, sl, [], optV (errP (wl.map (· ++ [10]))), _, _, rfl, ⟨by rw [fedS_of es]; exact xs1, r1, by omega, by rw [fedS_of es]; exact z1⟩, by omega, errW, upd_same, .inr ⟨o, rfl, ?_⟩, fun H9 fs out e9 F => ⟨rfl, k H9 x dx fs (fun b' o' e' => ?_) ((s17.trans s8).free nx) (by rw [hr]; rw [fedS_of es, wantS_of ew', errS_of (err_ten wl)] at F; exact iteF ⟨e9, F⟩)⟩⟩⟩
      · have eo2 := s8 _ _ (s7 _ _ eo)
        rw [upd_ne (ne_of_none eo2 nx), upd_ne (ne_of_none eo2 ndx)]
        exact eo2
      · have e2 := (s17.trans s8) _ _ e'
        refine out _ _ ?_ (ne_of_none e2 nx)
        rw [upd_ne (ne_of_none e2 nx), upd_ne (ne_of_none e2 ndx)]
        exact e2
    | true =>
      refine iteF ⟨.ref o, rfl, false, .inr (.inr ⟨[], s7 _ _ eo, rfl⟩), iteF ⟨.str (rowsT sl), rfl, .str (rowsT wl), rfl, .int (a : Int), rfl, _, _, rfl, rfl, .int (n : Int), rfl, rfl, rfl, fun x dx nx ndx ne => ⟨x, dx, rowsT sl, rowsT wl, _, _, rfl, by omega, by omega, upd_same, fun H9 fs out e9 F => ⟨rfl, k H9 x dx fs (fun b' o' e' => ?_) (s17.free nx) (by rw [hr]; rw [fedS_of es, wantS_of ew'] at F; exact iteT ⟨e9, F⟩)⟩⟩⟩⟩
      have e2 := s17 _ _ e'
      refine out _ _ ?_ (ne_of_none e2 nx)
      rw [upd_ne (ne_of_none e2 nx), upd_ne (ne_of_none e2 ndx)]
      exact e2
def ldAt (ws : List (List Nat)) (a : Nat) : Nat := lead (ws.getD a [])
/-- what a cut becomes -/
def PieceIs (C D : Addr) (ws : List (List Nat)) (H : Hp) (c : Nat × Nat × Nat) (v : V) : Prop := ∃ (q dx : Addr) (fs : List (Str × V)), v = .ref q ∧
  if (srcL ws c.1 c.2.1 (ldAt ws c.1 + 4)).all remL = true then H q = some (.ins D dx fs) ∧ CoF fs (rowsT (srcL ws c.1 c.2.1 (ldAt ws c.1 + 4))) (rowsT (srcL ws c.2.1 c.2.2 (ldAt ws c.1))) ((c.1 + 1 : Nat) : Int) (ldAt ws c.1 : Int)
  else H q = some (.ins C dx fs) ∧ ExF H fs (rowsT (srcL ws c.1 c.2.1 (ldAt ws c.1 + 4))) (rowsT (srcL ws c.2.1 c.2.2 (ldAt ws c.1))) (optV (errP ((srcL ws c.2.1 c.2.2 (ldAt ws c.1)).map (· ++ [10])))) ((c.1 + 1 : Nat) : Int) (ldAt ws c.1 : Int) (bareT (srcL ws c.1 c.2.1 (ldAt ws c.1 + 4)) [])
def PcsAt (C D : Addr) (ws : List (List Nat)) (H : Hp) : List V → List (Str ⊕ (Nat × Nat × Nat)) → Prop
  | [], [] => True
  | v :: vs, .inl x :: ps => v = .str x ∧ PcsAt C D ws H vs ps
  | v :: vs, .inr c :: ps => PieceIs C D ws H c v ∧ PcsAt C D ws H vs ps
  | _, _ => False
/-- all but lists stand as before -/
def NL (H H' : Hp) : Prop := ∀ b o, H b = some o → (∀ xs, o ≠ .lst xs) → H' b = some o
theorem NL.same {H H' : Hp} (s : Same H H') : NL H H' := fun b o e _ => s b o e
theorem NL.upd {H : Hp} {C : Addr} {xs ys : List V} (e : H C = some (.lst xs)) : NL H (L2.upd H C (.lst ys)) := fun b o eb n => by
  rw [upd_ne (fun z => by rw [z, e] at eb; exact n xs (Option.some.inj eb).symm)]
  exact eb
theorem PieceIs.nl {C D : Addr} {ws : List (List Nat)} {H H' : Hp} {c : Nat × Nat × Nat} {v : V} (s : NL H H') (h : PieceIs C D ws H c v) : PieceIs C D ws H' c v := by
  obtain ⟨q, dx, fs, e, k⟩ := h
  refine ⟨q, dx, fs, e, ?_⟩
  split at k
  · rename_i hr
    rw [hr]
    exact iteT ⟨s _ _ k.1 nofun, k.2⟩
  · rename_i hr
    rw [(Bool.not_eq_true _).mp hr]
    obtain ⟨o, o1, o2⟩ := k.2.options
    exact iteF ⟨s _ _ k.1 nofun, k.2.source, k.2.want, k.2.error, k.2.line, k.2.indent, ⟨o, o1, s _ _ o2 nofun⟩, k.2.bare⟩
theorem PcsAt.nl {C D : Addr} {ws : List (List Nat)} {H H' : Hp} (s : NL H H') : ∀ {vs : List V} {ps : List (Str ⊕ (Nat × Nat × Nat))}, PcsAt C D ws H vs ps → PcsAt C D ws H' vs ps
  | [], [], _ => trivial
  | _ :: _, .inl _ :: _, h => ⟨h.1, PcsAt.nl s h.2⟩
  | _ :: _, .inr _ :: _, h => ⟨h.1.nl s, PcsAt.nl s h.2⟩
  | [], .inl _ :: _, h => h.elim
  | [], .inr _ :: _, h => h.elim
  | _ :: _, [], h => h.elim
theorem PcsAt.app {C D : Addr} {ws : List (List Nat)} {H : Hp} {us : List V} {qs : List (Str ⊕ (Nat × Nat × Nat))} (k : PcsAt C D ws H us qs) : ∀ {vs : List V} {ps : List (Str ⊕ (Nat × Nat × Nat))}, PcsAt C D ws H vs ps → PcsAt C D ws H (vs ++ us) (ps ++ qs)
  | [], [], _ => k
  | _ :: _, .inl _ :: _, h => ⟨h.1, PcsAt.app k h.2⟩
  | _ :: _, .inr _ :: _, h => ⟨h.1, PcsAt.app k h.2⟩
  | [], .inl _ :: _, h => h.elim
  | [], .inr _ :: _, h => h.elim
  | _ :: _, [], h => h.elim
theorem PcsAt.txt {C D : Addr} {ws : List (List Nat)} {H : Hp} (x : Str) : PcsAt C D ws H [.str x] [.inl x] := ⟨rfl, trivial⟩
theorem PcsAt.pc {C D : Addr} {ws : List (List Nat)} {H : Hp} {c : Nat × Nat × Nat} {v : V} (h : PieceIs C D ws H c v) : PcsAt C D ws H [v] [.inr c] := ⟨h, trivial⟩
theorem PcsAt.len {C D : Addr} {ws : List (List Nat)} {H : Hp} : ∀ {vs : List V} {ps : List (Str ⊕ (Nat × Nat × Nat))}, PcsAt C D ws H vs ps → vs.length = ps.length
  | [], [], _ => rfl
  | _ :: _, .inl _ :: _, h => congrArg Nat.succ (PcsAt.len h.2)
  | _ :: _, .inr _ :: _, h => congrArg Nat.succ (PcsAt.len h.2)
  | [], .inl _ :: _, h => h.elim
  | [], .inr _ :: _, h => h.elim
  | _ :: _, [], h => h.elim
/-- a stretch of text, if there is one -/
def gapP (kept : List (List Nat)) (b e : Nat) : List (Str ⊕ (Nat × Nat × Nat)) := if b < e then [.inl (mk (joinL [] ((kept.drop b).take (e - b))))] else []
/-- the pieces of cuts, from a place on -/
def piecesL (kept : List (List Nat)) : Nat → List (Nat × Nat × Nat) → List (Str ⊕ (Nat × Nat × Nat))
  | b, [] => gapP kept b kept.length
  | b, c :: r => gapP kept b c.1 ++ (.inr c :: piecesL kept c.2.2 r)
/-- a text whose cuts are right, without directives -/
structure Whole (x : Str) (ls init : List (List Nat)) (last : List Nat) : Prop where
  eq : tl x = joinL [10] ls
  ne : ls ≠ []
  sg : ∀ l ∈ ls, ∀ c ∈ l, c ≠ 10 ∧ c ≠ 13
  lx : (tl x).length ≤ 9000
  lev : levW (ls.map (Mun.expT 8 0)) = init ++ [last]
  sz : (joinL [10] (init ++ [last])).length ≤ 9000
  right : ∀ c ∈ cutsL (rowsOf init last) 0, RightCut (rowsOf init last) c.1 c.2.1 c.2.2 ∧ ∀ l ∈ srcL (rowsOf init last) c.1 c.2.1 (ldAt (rowsOf init last) c.1 + 4), dirS (mk l) = ""
def sp_parsed (C D : Addr) : Sp := fun vs H Q _ => ∃ (x : Str) (ls init : List (List Nat)) (last : List Nat), vs = [.str x] ∧ Whole x ls init last ∧
  ∀ (H' : Hp) (L : Addr) (us : List V), Same H H' → H L = none → H' L = some (.lst us) → PcsAt C D (rowsOf init last) H' us (piecesL (keptOf init last) 0 (cutsL (rowsOf init last) 0)) → Q (.ref L) H'
theorem ok_parsed {f : Addr} {fd : FuncData} {dvs : List V} (F : Fn K "parsed" s_parsed dvs f fd) {C_Example : Addr} (T_Example : Txt_Example K mg C_Example) {C_Comment : Addr} (T_Comment : Txt_Comment K mg C_Comment) (O_levelled : Own P w K mg base "levelled" 2 ["text"] [] (sp_levelled)) (O_kept_lines : Own P w K mg base "kept_lines" 1 ["text"] [] (sp_kept_lines)) (O_lines_of : Own P w K mg base "lines_of" 2 ["text"] [] (sp_lines_of)) (O_cuts_of : Own P w K mg base "cuts_of" 3 ["lines"] [] (sp_cuts_of)) (O_piece_at : Own P w K mg base "piece_at" 6 ["lines", "cut"] [] (sp_piece_at C_Example C_Comment)) (m_len : mg "len" = none) : FnOk P w K mg base CX0 7 f fd ["text"] (sp_parsed C_Example C_Comment) := by
  refine Fn.okN F sc_parsed (fun vs H Q E h => ?_) (fun cdv A outer s H vs Q E hr h => ?_)
  · obtain ⟨_, _, _, _, rfl, _⟩ := h
    rfl
  · obtain ⟨x, ls, init, last, rfl, wh, k⟩ := h
    refine ⟨_, (pss_cons (ps_set (i := 1) sc_parsed.nd rfl (.inl rfl) (pe_own O_levelled (hr.mono (by decide)) (by rfl) (pa_cons (pv 0) pa_nil)))
      (pss_cons (ps_set (i := 2) sc_parsed.nd rfl (.inl rfl) (pe_own O_kept_lines (hr.mono (by decide)) (by rfl) (pa_cons (pv 1) pa_nil)))
      (pss_cons (ps_set (i := 3) sc_parsed.nd rfl (.inl rfl) (pe_own O_lines_of (hr.mono (by decide)) (by rfl) (pa_cons (pv 1) pa_nil)))
      (pss_cons (ps_set (i := 4) sc_parsed.nd rfl (.inl rfl) (pe_lst pa_nil))
      (pss_cons (ps_set (i := 5) sc_parsed.nd rfl (.inl rfl) pe_int)
      (pss_cons (ps_for PassesOwn.never rfl (pi_list (pe_own O_cuts_of (hr.mono (by decide)) (by rfl) (pa_cons (pv 3) pa_nil))) (pg_name (i := 6) sc_parsed.nd rfl (.inl rfl))
          (pss_cut (ps_if (pt_cmpR op_lt (pv 5) (pe_ix ix_tup (pv 6) pe_int (fun _ _ => rfl)) (nomark _))
                (pss_one (ps_expr (pe_bm PySem.F.plainAttrs_list PySem.F.slot_list_append PySem.F.type_list_append mt_append (pv 4) (pa_cons (pe_m1 PySem.F.slot_str_join PySem.F.type_str_join mt_join pe_str (pe_slice sl_list (pv 2) (po_some (pv 5)) (po_some (pe_ix ix_tup (pv 6) pe_int (fun _ _ => rfl))))) pa_nil))))
                pss_nil)
            (pss_cons (ps_expr (pe_bm PySem.F.plainAttrs_list PySem.F.slot_list_append PySem.F.type_list_append mt_append (pv 4) (pa_cons (pe_own O_piece_at (hr.mono (by decide)) (by rfl) (pa_cons (pv 3) (pa_cons (pv 6) pa_nil))) pa_nil)))
            (pss_one (ps_set (i := 5) sc_parsed.nd rfl (.inl rfl) (pe_ix ix_tup (pv 6) pe_int (fun _ _ => rfl)))))))
      (pss_cut (ps_if (pt_cmpR op_lt (pv 5) (pe_callB call_len_seq (by rfl) m_len PySem.boot_len (pa_cons (pv 2) pa_nil)) (nomark _))
          (pss_one (ps_expr (pe_bm PySem.F.plainAttrs_list PySem.F.slot_list_append PySem.F.type_list_append mt_append (pv 4) (pa_cons (pe_m1 PySem.F.slot_str_join PySem.F.type_str_join mt_join pe_str (pe_slice sl_list (pv 2) (po_some (pv 5)) po_none)) pa_nil))))
          pss_nil)
      (pss_one (ps_ret (pv 4)))))))))), ?_⟩
    have lx := wh.lx
    have xe : tl (mk (joinL [10] (init ++ [last]))) = joinL [10] (init ++ [last]) := rfl
    have h10 : Rows10 (init ++ [last]) := fun l hl h => by
      rw [← wh.lev] at hl
      unfold levW at hl
      obtain ⟨l', h1, rfl⟩ := List.mem_map.mp hl
      obtain ⟨l2, h2, rfl⟩ := List.mem_map.mp h1
      exact exp_no 8 0 (by decide) (fun z => (wh.sg l2 h2 10 z).1 rfl) (List.mem_of_mem_drop h)
    have xl : (mk (joinL [10] (init ++ [last]))).length ≤ 10000 := by
      rw [mk_len]
      have := wh.sz
      omega
    have ksum := kept_sum init last
    have hsz := wh.sz
    obtain ⟨rb, rn, rs⟩ := rows_bound xe xl
    have right := wh.right
    have kn : (keptOf init last).length = (rowsOf init last).length := by
      unfold keptOf rowsOf
      rw [List.length_append, List.length_append, List.length_map]
    have r10 : Rows10 (rowsOf init last) := fun l hl => by
      rcases List.mem_append.mp hl with h | h
      · exact h10 l (List.mem_append_left _ h)
      · unfold ifAny at h
        split at h
        · cases h
        · exact h10 l (List.mem_append_right _ h)
    have rs2 : ((rowsOf init last).map (·.length)).sum + (rowsOf init last).length ≤ 9001 := by
      have jl := joinL_len [10] (ps := init ++ [last]) (by simp)
      have e1 : ([10] : List Nat).length = 1 := rfl
      rw [e1, List.map_append, List.sum_append, List.length_append] at jl
      have c1 : ([last].map (·.length)).sum = last.length := by
        show last.length + 0 = _
        omega
      have l1 : [last].length = 1 := rfl
      rw [c1, l1] at jl
      unfold rowsOf ifAny
      rw [List.map_append, List.sum_append, List.length_append]
      split
      · show _ + 0 + (_ + 0) ≤ _
        omega
      · rw [c1, l1]
        omega
    refine ⟨.str x, rfl, x, ls, rfl, wh.eq, wh.ne, wh.sg, by omega, fun H1 s1 => ?_⟩
    rw [wh.lev]
    refine ⟨.str _, rfl, _, init, last, rfl, xe, h10, xl, fun H2 p2 s2 n2 e2 => ⟨.str _, rfl, _, init, last, rfl, xe, h10, xl, fun H3 p3 s3 n3 e3 => ⟨by show 0 ≤ sizeLine; decide, fun C nC => ?_⟩⟩⟩
    generalize mk (joinL [10] (init ++ [last])) = X at *
    generalize rowsOf init last = rows at *
    generalize keptOf init last = kept at *
    have hs : Short rows := ⟨by omega, rb⟩
    have sC := same_new (o := .lst []) nC
    have eC := upd_same (H := H3) (a := C) (o := .lst [])
    have nCH : H C = none := (s1.trans (s2.trans s3)).free nC
    refine ⟨.ref p3, rfl, p3, rows, rfl, sC _ _ e3, hs, fun H4 q ts s4 nq eq hc => ⟨q, rfl, ⟨_, SqL.of eq⟩, ?_⟩⟩
    have cl := cutsL_len rows rows.length 0 (by omega)
    have eC4 := s4 _ _ eC
    have qC : q ≠ C := fun e => by
      rw [e] at nq
      rw [eC] at nq
      cases nq
    have sH4 : Same H H4 := s1.trans (s2.trans (s3.trans (sC.trans s4)))
    have e24 := s4 _ _ (sC _ _ (s3 _ _ e2))
    have e34 := s4 _ _ (sC _ _ e3)
    have p2C : p2 ≠ C := ne_of_none (s3 _ _ e2) nC
    have p3C : p3 ≠ C := ne_of_none e3 nC
    generalize cutsL rows 0 = cuts at right k hc cl
    have hlen : ((kept.map mk).map V.str).length = kept.length := by rw [List.length_map, List.length_map]
    have el0 : ("" : Str).length = 0 := by decide +kernel
    have e00 : ("" : Str) = mk [] := ext_tl (by decide +kernel)
    have jsz : ∀ a n, ((((kept.drop a).take n).map mk).map (·.length)).sum + (((kept.drop a).take n).map mk).length * ("" : Str).length ≤ 16777216 := fun a n => by
      have h := seg_sum kept a n 0
      have hz : (((kept.drop a).take n).map (·.drop 0)) = (kept.drop a).take n := List.map_id _
      rw [hz] at h
      rw [el0, Nat.mul_zero, List.map_map]
      show (((kept.drop a).take n).map (·.length)).sum + 0 ≤ _
      omega
    have jtx : ∀ rs : List (List Nat), Txt.join "" (rs.map mk) = mk (joinL [] rs) := fun rs => by rw [e00, join_mk]
    refine for_list (K := K) (a := q) (xs := ts.map V.ref) (fun i σ H' => ∃ (v6 : Option V) (b : Nat) (us : List V) (ps : List (Str ⊕ (Nat × Nat × Nat))), σ = [some (.str x), some (.str X), some (.ref p2), some (.ref p3), some (.ref C), some (.int (b : Int)), v6] ∧ (∀ a o, a ≠ C → H4 a = some o → H' a = some o) ∧ H' C = some (.lst us) ∧ PcsAt C_Example C_Comment rows H' us ps ∧ ps ++ piecesL kept b (cuts.drop i) = piecesL kept 0 cuts ∧ us.length ≤ 2 * i) ⟨_, 0, [], [], rfl, fun _ _ _ e => e, eC4, trivial, rfl, Nat.zero_le _⟩ (fun i σ H' _ h => by
      obtain ⟨_, _, _, _, _, ks, _⟩ := h
      exact SqL.of (ks _ _ qC eq)) ?_ ?_
    · rintro i v σ H' hv ⟨v6, b, us, ps, rfl, ks, eL, hp', he, hul⟩
      rw [List.getElem?_map] at hv
      obtain ⟨t, ht, rfl⟩ := Option.map_eq_some_iff.mp hv
      obtain ⟨c, hcut, hct⟩ := hc.get ht
      have hi : i < cuts.length := (List.getElem?_eq_some_iff.mp hcut).1
      have hci : cuts[i] = c := by
        rw [List.getElem?_eq_getElem hi] at hcut
        exact Option.some.inj hcut
      have hd : cuts.drop i = c :: cuts.drop (i + 1) := by rw [List.drop_eq_getElem_cons hi, hci]
      rw [hd] at he
      obtain ⟨rc, nd⟩ := right c (List.mem_of_getElem? hcut)
      have tC' : t ≠ C := fun e => by
        rw [e, eC4] at hct
        cases hct
      have am := rc.am
      have me := rc.me
      have ew := rc.ew
      have et := ks _ _ tC' hct
      refine ⟨fun σ' H'' => ∃ us' : List V, σ' = [some (.str x), some (.str X), some (.ref p2), some (.ref p3), some (.ref C), some (.int (b : Int)), some (.ref t)] ∧ (∀ a o, a ≠ C → H4 a = some o → H'' a = some o) ∧ H'' C = some (.lst us') ∧ PcsAt C_Example C_Comment rows H'' us' (ps ++ gapP kept b c.1) ∧ us'.length ≤ 2 * i + 1, ⟨.int (b : Int), rfl, .ref t, rfl, t, _, 0, .int (c.1 : Int), rfl, rfl, SqT.of et, atI_nat (j := 0) rfl, _, _, rfl, rfl, _, rfl, ?_⟩, ?_⟩
      · by_cases hb : b < c.1
        · rw [decide_eq_true (by omega)]
          refine iteT ⟨.ref C, rfl, .inl ⟨rfl, _, SqL.of eL⟩, ⟨_, rfl⟩, .ref p2, rfl, .int (b : Int), rfl, _, rfl, .ref t, rfl, t, _, 0, .int (c.1 : Int), rfl, rfl, SqT.of et, atI_nat (j := 0) rfl, _, rfl, p2, _, rfl, SqL.of (ks _ _ p2C e24), fun y ny => ?_⟩
          have ecv : cutV ((kept.map mk).map V.str) (some (b : Int)) (some (c.1 : Int)) = (((kept.drop b).take (c.1 - b)).map mk).map V.str := by
            rw [cutV_seg _ b c.1 (by omega) (by rw [hlen]; omega), List.map_take, List.map_take, List.map_drop, List.map_drop]
          rw [ecv]
          have sy := same_new (o := .lst ((((kept.drop b).take (c.1 - b)).map mk).map V.str)) ny
          refine ⟨"", y, ((kept.drop b).take (c.1 - b)).map mk, rfl, rfl, .inl (SqL.of upd_same), jsz _ _, C, us, _, rfl, rfl, sy _ _ eL, Nat.lt_of_le_of_lt (show us.length ≤ 100000 by omega) (by decide), us ++ [.str (mk (joinL [] ((kept.drop b).take (c.1 - b))))], rfl, fun z o zn ez => ?_, ?_, ?_, ?_⟩
          · rw [upd_ne zn]
            exact sy _ _ (ks _ _ zn ez)
          · rw [upd_same, jtx]
          · unfold gapP
            rw [if_pos hb]
            exact PcsAt.app (PcsAt.txt _) ((hp'.nl (NL.same sy)).nl (NL.upd (sy _ _ eL)))
          · rw [List.length_append]
            show us.length + 1 ≤ _
            omega
        · rw [decide_eq_false (by omega)]
          refine iteF ⟨us, rfl, ks, eL, ?_, by omega⟩
          unfold gapP
          rw [if_neg hb, List.append_nil]
          exact hp'
      rintro σ' H'' ⟨us', rfl, ks', eL', hp'', hul'⟩
      have et' := ks' _ _ tC' hct
      refine ⟨.ref C, rfl, .inl ⟨rfl, _, SqL.of eL'⟩, .ref p3, rfl, .ref t, rfl, p3, t, rows, c.1, c.2.1, c.2.2, ldAt rows c.1, rfl, ks' _ _ p3C e34, et', hs, rc, r10, by omega, fun l hl => ?_, nd, fun H5 q' dx fs s5 nq' hpc => ⟨C, us', .ref q', rfl, rfl, s5 _ _ eL', Nat.lt_of_le_of_lt (show us'.length ≤ 100000 by omega) (by decide), .ref t, rfl, t, [.int (c.1 : Int), .int (c.2.1 : Int), .int (c.2.2 : Int)], 2, .int (c.2.2 : Int), rfl, rfl, SqT.of ?_, atI_nat (j := 2) rfl, _, c.2.2, us' ++ [.ref q'], (ps ++ gapP kept b c.1) ++ [.inr c], rfl, fun z o zn ez => ?_, upd_same, ?_, ?_, ?_⟩⟩
      · unfold ldAt
        rw [List.getD_eq_getElem?_getD, hl]
        rfl
      · rw [upd_ne tC']
        exact s5 _ _ et'
      · rw [upd_ne zn]
        exact s5 _ _ (ks' _ _ zn ez)
      · have pi : PieceIs C_Example C_Comment rows H5 c (.ref q') := ⟨q', dx, fs, rfl, hpc⟩
        exact PcsAt.app (PcsAt.pc (pi.nl (NL.upd (s5 _ _ eL')))) ((hp''.nl (NL.same s5)).nl (NL.upd (s5 _ _ eL')))
      · rw [List.append_assoc, List.append_assoc]
        exact he
      · rw [List.length_append]
        show us'.length + 1 ≤ _
        omega
    · rintro σ H' ⟨v6, b, us, ps, rfl, ks, eL, hp', he, hul⟩
      rw [List.length_map, hc.len] at he hul
      rw [List.drop_length] at he
      refine ⟨fun σ' H'' => ∃ us' : List V, σ' = [some (.str x), some (.str X), some (.ref p2), some (.ref p3), some (.ref C), some (.int (b : Int)), v6] ∧ (∀ a o, a ≠ C → H4 a = some o → H'' a = some o) ∧ H'' C = some (.lst us') ∧ PcsAt C_Example C_Comment rows H'' us' (ps ++ gapP kept b kept.length), ⟨.int (b : Int), rfl, .ref p2, rfl, p2, _, rfl, .inl (SqL.of (ks _ _ p2C e24)), _, _, rfl, rfl, _, rfl, ?_⟩, ?_⟩
      · rw [hlen]
        by_cases hb : b < kept.length
        · rw [decide_eq_true (by omega)]
          refine iteT ⟨.ref C, rfl, .inl ⟨rfl, _, SqL.of eL⟩, ⟨_, rfl⟩, .ref p2, rfl, .int (b : Int), rfl, _, rfl, p2, _, rfl, SqL.of (ks _ _ p2C e24), fun y ny => ?_⟩
          have ecv : cutV ((kept.map mk).map V.str) (some (b : Int)) none = (((kept.drop b).take (kept.length - b)).map mk).map V.str := by
            rw [cutV_drop _ _ (by rw [hlen]; omega), List.take_of_length_le (by rw [List.length_drop]; exact Nat.le_refl _), List.map_drop, List.map_drop]
          rw [ecv]
          have sy := same_new (o := .lst ((((kept.drop b).take (kept.length - b)).map mk).map V.str)) ny
          refine ⟨"", y, ((kept.drop b).take (kept.length - b)).map mk, rfl, rfl, .inl (SqL.of upd_same), jsz _ _, C, us, _, rfl, rfl, sy _ _ eL, Nat.lt_of_le_of_lt (show us.length ≤ 100000 by omega) (by decide), us ++ [.str (mk (joinL [] ((kept.drop b).take (kept.length - b))))], rfl, fun z o zn ez => ?_, ?_, ?_⟩
          · rw [upd_ne zn]
            exact sy _ _ (ks _ _ zn ez)
          · rw [upd_same, jtx]
          · unfold gapP
            rw [if_pos hb]
            exact PcsAt.app (PcsAt.txt _) ((hp'.nl (NL.same sy)).nl (NL.upd (sy _ _ eL)))
        · rw [decide_eq_false (by omega)]
          refine iteF ⟨us, rfl, ks, eL, ?_⟩
          unfold gapP
          rw [if_neg hb, List.append_nil]
          exact hp'
      rintro σ' H'' ⟨us', rfl, ks', eL', hp''⟩
      refine ⟨.ref C, rfl, k _ C us' (fun z o ez => ks' _ _ (ne_of_none ez nCH) (sH4 _ _ ez)) nCH eL' ?_⟩
      rw [← he]
      exact hp''
end

/-! ### texts of parts -/
theorem lstrip_tl (x : Str) (goes : Nat → Bool) : tl (Txt.stripBy goes true false x) = (tl x).drop ((tl x).takeWhile goes).length := by
  have hl := lstrip_len x goes
  rw [stripBy_eq] at hl ⊢
  have hh : stripHi goes false x (stripLo goes true x) = x.length := rfl
  rw [hh] at hl ⊢
  obtain ⟨h1, _, _⟩ := lo_facts goes x
  have l1 : (Builtin.Str.strSub x (stripLo goes true x) x.length).length = x.length - stripLo goes true x := by
    rw [len_tl, tl_strSub, List.length_take, List.length_drop, ← len_tl]
    omega
  rw [l1] at hl
  have l2 := (List.takeWhile_sublist (l := tl x) goes).length_le
  rw [← len_tl] at l2
  have e : stripLo goes true x = ((tl x).takeWhile goes).length := by omega
  rw [tl_strSub, e]
  exact List.take_of_length_le (by rw [List.length_drop, ← len_tl]; exact Nat.le_refl _)
theorem lstrip_sp (l : List Nat) : Txt.lstripChars (mk l) " " = mk (l.drop (lead l)) := by
  refine ext_tl ?_
  rw [sp_one]
  unfold Txt.lstripChars
  rw [contains_one, lstrip_tl]
  rfl
theorem bg_eq (l : List Nat) {y : List Nat} (hy : y ≠ []) : bg (mk l) (mk y) = pre y (l.drop (lead l)) := by
  unfold bg
  rw [lstrip_sp]
  exact starts_pre _ hy
def P3 : List Nat := [62, 62, 62]
def D3 : List Nat := [46, 46, 46]
theorem gt3 : (">>>" : Str) = mk P3 := ext_tl (by decide +kernel)
theorem dots3 : ("..." : Str) = mk D3 := ext_tl (by decide +kernel)
theorem bgP (l : List Nat) : bg (mk l) ">>>" = pre P3 (l.drop (lead l)) := by
  rw [gt3]
  exact bg_eq l (by decide)
theorem pS_eq (l : List Nat) : pS l = pre D3 (l.drop (lead l)) := by
  unfold pS
  rw [dots3]
  exact bg_eq l (by decide)
def sps (n : Nat) : List Nat := List.replicate n 32
theorem lead_sps (n : Nat) (l : List Nat) : lead (sps n ++ l) = n + lead l := by
  induction n with
  | zero =>
    show lead ([] ++ l) = 0 + lead l
    rw [List.nil_append, Nat.zero_add]
  | succ n ih =>
    unfold sps at ih ⊢
    rw [List.replicate_succ, List.cons_append]
    unfold lead at ih ⊢
    rw [List.takeWhile_cons, if_pos (by decide), List.length_cons, ih]
    omega
theorem drop_sps (n : Nat) (l : List Nat) : (sps n ++ l).drop (lead (sps n ++ l)) = l.drop (lead l) := by
  rw [lead_sps, ← List.drop_drop]
  congr 1
  have e : (sps n).length = n := List.length_replicate
  rw [List.drop_append_of_le_length (by omega), List.drop_of_length_le (by omega), List.nil_append]
theorem drop_pre (n k : Nat) (l : List Nat) : (sps n ++ l).drop (n + k) = l.drop k := by
  rw [← List.drop_drop]
  congr 1
  have e : (sps n).length = n := List.length_replicate
  rw [List.drop_append_of_le_length (by omega), List.drop_of_length_le (by omega), List.nil_append]
theorem lead_ne {c : Nat} (l : List Nat) (h : (c == 32) = false) : lead (c :: l) = 0 := by
  unfold lead
  rw [List.takeWhile_cons, h]
  rfl
/-- a part of a text: lines of text; or an example or a comment (c) at an indent: its source lines with what stands behind their prompts, its expected lines -/
inductive NP where
  | txt (ls : List (List Nat))
  | ex (c : Bool) (D : Nat) (ss : List (List Nat × List Nat)) (ws : List (List Nat))
def srow (D : Nat) (p b : List Nat) : List Nat := sps D ++ (p ++ b)
def srows (D : Nat) : List (List Nat × List Nat) → List (List Nat)
  | [] => []
  | p :: r => srow D P3 p.2 :: r.map fun q => srow D D3 q.2
theorem srows_len (D : Nat) (ss : List (List Nat × List Nat)) : (srows D ss).length = ss.length := by
  cases ss with
  | nil => rfl
  | cons p r =>
    show (r.map _).length + 1 = r.length + 1
    rw [List.length_map]
def NP.rows : NP → List (List Nat)
  | .txt ls => ls
  | .ex _ D ss ws => srows D ss ++ ws.map (sps D ++ ·)
/-- a source line without a directive -/
def plainS (l : List Nat) : Prop := dirS (mk l) = "" ∧ bareS l = tl (Txt.rstripChars (mk l) " ")
def BOk (p : List Nat × List Nat) : Prop := p.2 = 32 :: p.1 ∨ p.1 = [] ∧ p.2 = []
def NP.Ok : NP → Prop
  | .txt ls => ls ≠ [] ∧ ∀ l ∈ ls, bg (mk l) ">>>" = false
  | .ex c _ ss ws => ss ≠ [] ∧ (∀ p ∈ ss, BOk p ∧ plainS p.1) ∧ (ss.map (·.1)).all remL = c ∧ (∀ l ∈ ws, isBlank l = false ∧ bg (mk l) ">>>" = false) ∧ ∀ l r, ws = l :: r → pS l = false
def NP.First : NP → Prop
  | .txt ls => ∃ l r, ls = l :: r ∧ isBlank l = true
  | .ex .. => True
def NP.isTxt : NP → Bool
  | .txt _ => true
  | .ex .. => false
def SeqOk : List NP → Prop
  | [] => True
  | p :: r => p.Ok ∧ (∀ q r', r = q :: r' → q.First ∧ (p.isTxt = true → q.isTxt = false)) ∧ SeqOk r
def rowsAll (ps : List NP) : List (List Nat) := (ps.map NP.rows).flatten
theorem rowsAll_cons (p : NP) (r : List NP) : rowsAll (p :: r) = p.rows ++ rowsAll r := rfl
def cutsB (o : Nat) : List NP → List (Nat × Nat × Nat)
  | [] => []
  | .txt ls :: r => cutsB (o + ls.length) r
  | .ex _ _ ss ws :: r => (o, o + ss.length, o + ss.length + ws.length) :: cutsB (o + ss.length + ws.length) r
theorem bg_srow (D : Nat) (b : List Nat) : bg (mk (srow D P3 b)) ">>>" = true := by
  rw [bgP]
  unfold srow
  rw [drop_sps]
  have e : P3 ++ b = 62 :: ([62, 62] ++ b) := rfl
  rw [e, lead_ne _ (by decide), List.drop_zero]
  unfold pre
  show (([62, 62, 62] ++ b).take 3 == P3) = true
  rfl
theorem pS_srow (D : Nat) (b : List Nat) : pS (srow D P3 b) = false := by
  rw [pS_eq]
  unfold srow
  rw [drop_sps]
  have e : P3 ++ b = 62 :: ([62, 62] ++ b) := rfl
  rw [e, lead_ne _ (by decide), List.drop_zero]
  unfold pre
  show (([62, 62, 62] ++ b).take 3 == D3) = false
  rfl
theorem pS_drow (D : Nat) (b : List Nat) : pS (srow D D3 b) = true := by
  rw [pS_eq]
  unfold srow
  rw [drop_sps]
  have e : D3 ++ b = 46 :: ([46, 46] ++ b) := rfl
  rw [e, lead_ne _ (by decide), List.drop_zero]
  unfold pre
  show (([46, 46, 46] ++ b).take 3 == D3) = true
  rfl
theorem blank_drop {l : List Nat} (h : isBlank l = true) (k : Nat) : isBlank (l.drop k) = true := by
  unfold isBlank at h ⊢
  rw [List.all_eq_true] at h ⊢
  exact fun c hc => h c (List.mem_of_mem_drop hc)
theorem pS_blank {l : List Nat} (h : isBlank l = true) : pS l = false := by
  rw [pS_eq]
  have h2 := blank_drop h (lead l)
  generalize l.drop (lead l) = m at h2
  cases m with
  | nil => rfl
  | cons c r =>
    unfold isBlank at h2
    rw [List.all_cons, Bool.and_eq_true] at h2
    have h3 : (c == 46) = false := by
      rw [beq_eq_false_iff_ne]
      rintro rfl
      exact absurd h2.1 (by decide)
    show ((c :: r).take 3 == D3) = false
    rw [List.take_succ_cons]
    show (c :: r.take 2 == 46 :: [46, 46]) = false
    rw [List.cons_beq_cons, h3]
    rfl
theorem pE_blank {l : List Nat} (h : isBlank l = true) : pE l = false := by
  unfold pE
  rw [h]
  rfl
theorem runL_seg {p : List Nat → Bool} (pr seg post : List (List Nat)) (hs : ∀ l ∈ seg, p l = true) (hp : post = [] ∨ ∃ h t, post = h :: t ∧ p h = false) : runL p (pr ++ (seg ++ post)) pr.length = pr.length + seg.length := by
  unfold runL
  rw [List.drop_left' rfl]
  congr 2
  induction seg with
  | nil =>
    rw [List.nil_append]
    rcases hp with rfl | ⟨h, t, rfl, hh⟩
    · rfl
    · rw [List.takeWhile_cons, hh]
      rfl
  | cons a r ih =>
    rw [List.cons_append, List.takeWhile_cons, hs a (List.mem_cons_self ..), if_pos rfl, ih fun l hl => hs l (List.mem_cons_of_mem _ hl)]
theorem head_rows : ∀ (ps : List NP), SeqOk ps → (∀ q r, ps = q :: r → q.First) → rowsAll ps = [] ∨ ∃ h t, rowsAll ps = h :: t ∧ pS h = false ∧ pE h = false
  | [], _, _ => .inl rfl
  | .txt ls :: r, _, hf => by
    obtain ⟨l, r', rfl, hb⟩ := hf _ _ rfl
    exact .inr ⟨l, r' ++ rowsAll r, rfl, pS_blank hb, pE_blank hb⟩
  | .ex c D [] ws :: r, ho, _ => absurd rfl ho.1.1
  | .ex c D (p :: ss) ws :: r, _, _ => by
    refine .inr ⟨srow D P3 p.2, _, rfl, pS_srow _ _, ?_⟩
    unfold pE
    rw [bg_srow]
    exact Bool.and_false _
theorem skip_txt : ∀ (ls pr post : List (List Nat)), (∀ l ∈ ls, bg (mk l) ">>>" = false) → cutsL (pr ++ (ls ++ post)) pr.length = cutsL (pr ++ (ls ++ post)) (pr.length + ls.length)
  | [], pr, post, _ => rfl
  | l :: r, pr, post, h => by
    have ih := skip_txt r (pr ++ [l]) post fun m hm => h m (List.mem_cons_of_mem _ hm)
    have e : pr ++ [l] ++ (r ++ post) = pr ++ (l :: r ++ post) := by simp
    rw [e, List.length_append] at ih
    have hlt : pr.length < (pr ++ (l :: r ++ post)).length := by
      rw [List.length_append, List.cons_append, List.length_cons]
      omega
    have hg : (pr ++ (l :: r ++ post))[pr.length] = l := by
      rw [List.getElem_append_right (Nat.le_refl _)]
      simp
    rw [cutsL, dif_pos hlt, hg, h l (List.mem_cons_self ..), if_neg Bool.false_ne_true]
    rw [List.length_cons]
    show cutsL _ (pr.length + [l].length) = _
    rw [ih]
    congr 1
    show pr.length + 1 + r.length = pr.length + (r.length + 1)
    omega
theorem cuts_of_parts : ∀ (ps : List NP) (pr : List (List Nat)), SeqOk ps → cutsL (pr ++ rowsAll ps) pr.length = cutsB pr.length ps
  | [], pr, _ => by
    rw [cutsL, dif_neg (by rw [List.length_append]; show ¬ _ < _ + 0; omega)]
    rfl
  | .txt ls :: r, pr, ho => by
    have ih := cuts_of_parts r (pr ++ ls) ho.2.2
    rw [List.length_append, List.append_assoc] at ih
    rw [rowsAll_cons]
    show cutsL (pr ++ (ls ++ rowsAll r)) pr.length = cutsB (pr.length + ls.length) r
    rw [skip_txt ls pr (rowsAll r) ho.1.2, ih]
  | .ex c D [] ws :: r, pr, ho => absurd rfl ho.1.1
  | .ex c D (p :: ss) ws :: r, pr, ho => by
    obtain ⟨⟨_, hss, _, hws, hfw⟩, hnext, hr⟩ := ho
    have hh := head_rows r hr fun q r' e => (hnext q r' e).1
    have ih := cuts_of_parts r (pr ++ (srows D (p :: ss) ++ ws.map (sps D ++ ·))) hr
    have el : (pr ++ (srows D (p :: ss) ++ ws.map (sps D ++ ·))).length = pr.length + (p :: ss).length + ws.length := by
      rw [List.length_append, List.length_append, srows_len, List.length_map]
      omega
    rw [el] at ih
    rw [rowsAll_cons]
    show cutsL (pr ++ ((srows D (p :: ss) ++ ws.map (sps D ++ ·)) ++ rowsAll r)) pr.length = (pr.length, pr.length + (p :: ss).length, pr.length + (p :: ss).length + ws.length) :: cutsB (pr.length + (p :: ss).length + ws.length) r
    rw [List.append_assoc] at ih
    generalize hA : pr ++ ((srows D (p :: ss) ++ ws.map (sps D ++ ·)) ++ rowsAll r) = A at ih ⊢
    have a1 : A = pr ++ (srow D P3 p.2 :: (ss.map (fun q => srow D D3 q.2) ++ ws.map (sps D ++ ·) ++ rowsAll r)) := by rw [← hA]; rfl
    have a2 : A = (pr ++ [srow D P3 p.2]) ++ (ss.map (fun q => srow D D3 q.2) ++ (ws.map (sps D ++ ·) ++ rowsAll r)) := by rw [a1]; simp
    have a3 : A = (pr ++ srows D (p :: ss)) ++ (ws.map (sps D ++ ·) ++ rowsAll r) := by rw [← hA]; simp
    have hlt : pr.length < A.length := by
      rw [a1, List.length_append, List.length_cons]
      omega
    have hg : A[pr.length] = srow D P3 p.2 := by
      subst a1
      rw [List.getElem_append_right (Nat.le_refl _)]
      simp
    have r1 : runL pS A (pr.length + 1) = pr.length + (p :: ss).length := by
      have k := runL_seg (p := pS) (pr ++ [srow D P3 p.2]) (ss.map fun q => srow D D3 q.2) (ws.map (sps D ++ ·) ++ rowsAll r) (fun l hl => by
        obtain ⟨q, _, rfl⟩ := List.mem_map.mp hl
        exact pS_drow _ _) (by
        cases ws with
        | nil =>
          rw [List.map_nil, List.nil_append]
          rcases hh with e | ⟨h, t, e, h1, _⟩
          · exact .inl e
          · exact .inr ⟨h, t, e, h1⟩
        | cons w ws' =>
          refine .inr ⟨sps D ++ w, ws'.map (sps D ++ ·) ++ rowsAll r, rfl, ?_⟩
          have := hfw w ws' rfl
          rw [pS_eq] at this ⊢
          rw [drop_sps]
          exact this)
      rw [← a2, List.length_append, List.length_map] at k
      rw [List.length_cons]
      show runL pS A (pr.length + [srow D P3 p.2].length) = _
      rw [k]
      show pr.length + 1 + ss.length = pr.length + (ss.length + 1)
      omega
    have r2 : runL pE A (pr.length + (p :: ss).length) = pr.length + (p :: ss).length + ws.length := by
      have k := runL_seg (p := pE) (pr ++ srows D (p :: ss)) (ws.map (sps D ++ ·)) (rowsAll r) (fun l hl => by
        obtain ⟨w, hw, rfl⟩ := List.mem_map.mp hl
        obtain ⟨w1, w2⟩ := hws w hw
        unfold pE
        have hb : isBlank (sps D ++ w) = false := by
          unfold isBlank at w1 ⊢
          rw [List.all_append, w1, Bool.and_false]
        rw [bgP] at w2 ⊢
        rw [drop_sps, w2, hb]
        rfl) (by
        rcases hh with e | ⟨h, t, e, _, h2⟩
        · exact .inl e
        · exact .inr ⟨h, t, e, h2⟩)
      rw [← a3, List.length_append, srows_len, List.length_map] at k
      exact k
    rw [cutsL, dif_pos hlt, hg, bg_srow, if_pos rfl, r1, r2, ih]
/-- the pieces of parts, from a place on -/
def pcsB (kept : List (List Nat)) (o : Nat) : List NP → List (Str ⊕ (Nat × Nat × Nat))
  | [] => []
  | .txt ls :: r => .inl (mk (joinL [] ((kept.drop o).take ls.length))) :: pcsB kept (o + ls.length) r
  | .ex _ _ ss ws :: r => .inr (o, o + ss.length, o + ss.length + ws.length) :: pcsB kept (o + ss.length + ws.length) r
theorem gap_none (kept : List (List Nat)) (o : Nat) : gapP kept o o = [] := if_neg (Nat.lt_irrefl _)
theorem pieces_of_parts (kept : List (List Nat)) : ∀ (ps : List NP) (o : Nat), SeqOk ps → kept.length = o + (rowsAll ps).length → piecesL kept o (cutsB o ps) = pcsB kept o ps
  | [], o, _, hk => by
    show gapP kept o kept.length = []
    rw [show kept.length = o from hk]
    exact gap_none kept o
  | .ex c D ss ws :: r, o, ho, hk => by
    rw [rowsAll_cons, List.length_append] at hk
    have e : (NP.ex c D ss ws).rows.length = ss.length + ws.length := by
      show (srows D ss ++ ws.map (sps D ++ ·)).length = _
      rw [List.length_append, srows_len, List.length_map]
    rw [e] at hk
    have ih := pieces_of_parts kept r (o + ss.length + ws.length) ho.2.2 (by omega)
    show gapP kept o o ++ (.inr (o, o + ss.length, o + ss.length + ws.length) :: piecesL kept (o + ss.length + ws.length) (cutsB (o + ss.length + ws.length) r)) = _
    rw [ih, gap_none]
    rfl
  | [.txt ls], o, ho, hk => by
    have e : kept.length = o + ls.length := by
      rw [hk]
      show o + (ls ++ []).length = _
      rw [List.append_nil]
    have h0 : ls.length ≠ 0 := fun z => ho.1.1 (List.length_eq_zero_iff.mp z)
    show gapP kept o kept.length = _
    unfold gapP
    rw [if_pos (by omega), e, Nat.add_sub_cancel_left]
    rfl
  | .txt ls :: .txt ms :: r, o, ho, hk => by
    have h := (ho.2.1 _ _ rfl).2 rfl
    cases h
  | .txt ls :: .ex c D ss ws :: r, o, ho, hk => by
    rw [rowsAll_cons, List.length_append] at hk
    have ih := pieces_of_parts kept (.ex c D ss ws :: r) (o + ls.length) ho.2.2 (by
      have : (NP.txt ls).rows.length = ls.length := rfl
      omega)
    have h0 : ls.length ≠ 0 := fun z => ho.1.1 (List.length_eq_zero_iff.mp z)
    show gapP kept o (o + ls.length) ++ (.inr (o + ls.length, o + ls.length + ss.length, o + ls.length + ss.length + ws.length) :: piecesL kept (o + ls.length + ss.length + ws.length) (cutsB (o + ls.length + ss.length + ws.length) r)) = .inl _ :: pcsB kept (o + ls.length) (.ex c D ss ws :: r)
    rw [← ih]
    show _ = .inl _ :: (gapP kept (o + ls.length) (o + ls.length) ++ _)
    rw [gap_none]
    unfold gapP
    rw [if_pos (by omega), Nat.add_sub_cancel_left]
    rfl
theorem pre_app (S r : List Nat) : pre S (S ++ r) = true := by
  unfold pre
  rw [List.take_left' rfl]
  exact beq_self_eq_true S
theorem foldl_reps : ∀ (n : Nat) (acc : Array Nat), ((List.replicate n (#[32] : Array Nat)).foldl (· ++ ·) acc).toList = acc.toList ++ sps n
  | 0, acc => by
    show acc.toList = acc.toList ++ []
    rw [List.append_nil]
  | n + 1, acc => by
    rw [List.replicate_succ, List.foldl_cons, foldl_reps n, Array.toList_append, List.append_assoc]
    rfl
theorem mul_sps (n : Nat) : Txt.mul " " (n : Int) = mk (sps n) := by
  refine ext_tl ?_
  rw [sp_one]
  unfold Txt.mul
  split
  · rename_i h
    have : n = 0 := by omega
    subst this
    rfl
  · split
    · rename_i h1 h2
      rw [Bool.or_eq_true, beq_iff_eq, beq_iff_eq] at h2
      have : n = 1 := by
        rcases h2 with h2 | h2
        · omega
        · cases h2
      subst this
      rfl
    · show ((List.replicate (n : Int).toNat (#[32] : Array Nat)).foldl (· ++ ·) #[]).toList = sps n
      rw [Int.toNat_natCast, foldl_reps]
      rfl
theorem starts_sps (n : Nat) (l : List Nat) : Txt.startswith (mk (sps n ++ l)) (Txt.mul " " (n : Int)) = true := by
  rw [mul_sps]
  cases n with
  | zero =>
    have e : mk (sps 0) = "" := ext_tl (by decide +kernel)
    rw [e]
    exact starts_empty _
  | succ n => 
    exact (starts_pre (mk (sps (n + 1) ++ l)) (y := sps (n + 1)) (by unfold sps; rw [List.replicate_succ]; simp)).trans (pre_app _ _)
theorem starts_dot (n : Nat) (b : List Nat) : Txt.startswith (mk (srow n D3 b)) (Txt.mul " " (n : Int) ++ ".") = true := by
  have e : Txt.mul " " (n : Int) ++ "." = mk (sps n ++ [46]) := ext_tl (by
    rw [tl_append, mul_sps]
    show sps n ++ tl "." = sps n ++ [46]
    congr 1)
  rw [e]
  refine (starts_pre _ (by simp)).trans ?_
  show pre (sps n ++ [46]) (sps n ++ (46 :: ([46, 46] ++ b))) = true
  have e2 : sps n ++ (46 :: ([46, 46] ++ b)) = (sps n ++ [46]) ++ ([46, 46] ++ b) := by simp
  rw [e2]
  exact pre_app _ _
theorem drop_srow3 (D : Nat) {p : List Nat × List Nat} (h : BOk p) : (srow D P3 p.2).drop (D + 4) = p.1 := by
  unfold srow
  rw [drop_pre]
  rcases h with h | ⟨h1, h2⟩
  · rw [h]
    rfl
  · rw [h1, h2]
    rfl
theorem drop_drow3 (D : Nat) {p : List Nat × List Nat} (h : BOk p) : (srow D D3 p.2).drop (D + 4) = p.1 := by
  unfold srow
  rw [drop_pre]
  rcases h with h | ⟨h1, h2⟩
  · rw [h]
    rfl
  · rw [h1, h2]
    rfl
theorem srows_drop (D : Nat) : ∀ (ss : List (List Nat × List Nat)), (∀ p ∈ ss, BOk p) → (srows D ss).map (·.drop (D + 4)) = ss.map (·.1)
  | [], _ => rfl
  | p :: r, h => by
    show (srow D P3 p.2).drop (D + 4) :: (r.map fun q => srow D D3 q.2).map (·.drop (D + 4)) = p.1 :: r.map (·.1)
    rw [drop_srow3 D (h p (List.mem_cons_self ..)), List.map_map]
    congr 1
    exact List.map_congr_left fun q hq => drop_drow3 D (h q (List.mem_cons_of_mem _ hq))
theorem wants_drop (D : Nat) (ws : List (List Nat)) : (ws.map (sps D ++ ·)).map (·.drop D) = ws := by
  rw [List.map_map]
  refine (List.map_congr_left fun l _ => ?_).trans (List.map_id _)
  exact drop_pre D 0 l
theorem lead_srow (D : Nat) (b : List Nat) : lead (srow D P3 b) = D := by
  unfold srow
  rw [lead_sps]
  show D + lead (62 :: ([62, 62] ++ b)) = D
  rw [lead_ne _ (by decide)]
  exact Nat.add_zero D
theorem blank_cut (D : Nat) (P : List Nat) (hP : P.length = 3) {p : List Nat × List Nat} (h : BOk p) : inV (.str (cutS (mk (srow D P p.2)) (some ((D : Int) + 3)) (some ((D : Int) + 3 + 1)))) [.str "", .str " "] = true := by
  have e : cutS (mk (srow D P p.2)) (some ((D : Int) + 3)) (some ((D : Int) + 3 + 1)) = mk (p.2.take 1) := by
    refine ext_tl ?_
    have lz : D + 3 ≤ (mk (srow D P p.2)).length := by
      rw [mk_len]
      unfold srow
      rw [List.length_append, List.length_append, hP]
      have : (sps D).length = D := List.length_replicate
      omega
    have := cutS_mid (mk (srow D P p.2)) (D + 3) (D + 4) lz
    refine this.trans ?_
    show ((srow D P p.2).drop (D + 3)).take (D + 4 - (D + 3)) = p.2.take 1
    unfold srow
    rw [drop_pre, List.drop_left' hP, show D + 4 - (D + 3) = 1 by omega]
  rw [e]
  rcases h with h | ⟨_, h⟩
  · rw [h]
    show inV (.str (mk [32])) [.str "", .str " "] = true
    decide +kernel
  · rw [h]
    show inV (.str (mk [])) [.str "", .str " "] = true
    decide +kernel
theorem srows_get (D : Nat) {ss : List (List Nat × List Nat)} {j : Nat} {l : List Nat} (h : (srows D ss)[j]? = some l) : ∃ p ∈ ss, l = srow D (if j = 0 then P3 else D3) p.2 := by
  cases ss with
  | nil => cases h
  | cons p r =>
    cases j with
    | zero =>
      cases h
      exact ⟨p, List.mem_cons_self .., rfl⟩
    | succ j =>
      have h2 : (r.map fun q => srow D D3 q.2)[j]? = some l := h
      rw [List.getElem?_map] at h2
      obtain ⟨q, hq, rfl⟩ := Option.map_eq_some_iff.mp h2
      exact ⟨q, List.mem_cons_of_mem _ (List.mem_of_getElem? hq), rfl⟩
/-- an example or a comment among the lines -/
theorem ex_facts {c : Bool} {D : Nat} {ss : List (List Nat × List Nat)} {ws : List (List Nat)} (ok : (NP.ex c D ss ws).Ok) (pr post : List (List Nat)) {A : List (List Nat)} (hA : A = pr ++ ((NP.ex c D ss ws).rows ++ post)) :
    RightCut A pr.length (pr.length + ss.length) (pr.length + ss.length + ws.length) ∧ srcL A pr.length (pr.length + ss.length) (D + 4) = ss.map (·.1) ∧ srcL A (pr.length + ss.length) (pr.length + ss.length + ws.length) D = ws ∧ ldAt A pr.length = D := by
  obtain ⟨hne, hss, _, hws, _⟩ := ok
  have hb : ∀ p ∈ ss, BOk p := fun p hp => (hss p hp).1
  have a1 : A = pr ++ (srows D ss ++ (ws.map (sps D ++ ·) ++ post)) := by
    rw [hA]
    show pr ++ ((srows D ss ++ ws.map (sps D ++ ·)) ++ post) = _
    rw [List.append_assoc]
  have a2 : A = (pr ++ srows D ss) ++ (ws.map (sps D ++ ·) ++ post) := by rw [a1, List.append_assoc]
  have lS := srows_len D ss
  have lp : (pr ++ srows D ss).length = pr.length + ss.length := by rw [List.length_append, lS]
  have lw : (ws.map (sps D ++ ·)).length = ws.length := List.length_map _
  have lA : A.length = pr.length + ss.length + ws.length + post.length := by
    rw [a2, List.length_append, lp, List.length_append, lw]
    omega
  have pos : 0 < ss.length := Nat.pos_of_ne_zero fun z => hne (List.length_eq_zero_iff.mp z)
  have gs : ∀ j l, pr.length ≤ j → j < pr.length + ss.length → A[j]? = some l → (srows D ss)[j - pr.length]? = some l := fun j l h1 h2 h => by
    rw [a1, List.getElem?_append_right h1, List.getElem?_append_left (by omega)] at h
    exact h
  have gw : ∀ j l, pr.length + ss.length ≤ j → j < pr.length + ss.length + ws.length → A[j]? = some l → ∃ w, l = sps D ++ w := fun j l h1 h2 h => by
    rw [a2, List.getElem?_append_right (by omega), List.getElem?_append_left (by omega), List.getElem?_map] at h
    obtain ⟨w, _, rfl⟩ := Option.map_eq_some_iff.mp h
    exact ⟨w, rfl⟩
  have h0 : ∃ p ∈ ss, A[pr.length]? = some (srow D P3 p.2) := by
    have hlt : pr.length < A.length := by omega
    obtain ⟨p, hp, e⟩ := srows_get D (gs _ _ (Nat.le_refl _) (by omega) (List.getElem?_eq_getElem hlt))
    rw [Nat.sub_self, if_pos rfl] at e
    exact ⟨p, hp, by rw [List.getElem?_eq_getElem hlt, e]⟩
  obtain ⟨p0, hp0, e0⟩ := h0
  have ld : ldAt A pr.length = D := by
    unfold ldAt
    rw [List.getD_eq_getElem?_getD, e0]
    exact lead_srow D _
  have ldG : ∀ h : pr.length < A.length, lead A[pr.length] = D := fun h => by
    rw [List.getElem?_eq_getElem h] at e0
    rw [Option.some.inj e0]
    exact lead_srow D _
  refine ⟨⟨by omega, by omega, by omega, fun j l h1 h2 h => ?_, fun j l h1 h2 h => ?_, fun j l h1 h2 h => ?_⟩, ?_, ?_, ld⟩
  · rw [ldG]
    obtain ⟨p, hp, rfl⟩ := srows_get D (gs j l h1 h2 h)
    exact blank_cut D _ (by split <;> rfl) (hb p hp)
  · rw [ldG]
    obtain ⟨p, hp, rfl⟩ := srows_get D (gs j l (by omega) h2 h)
    rw [if_neg (by omega)]
    exact starts_dot D _
  · rw [ldG]
    obtain ⟨w, rfl⟩ := gw j l h1 h2 h
    exact starts_sps D w
  · unfold srcL
    rw [a1, List.drop_left' rfl, Nat.add_sub_cancel_left, List.take_left' lS]
    exact srows_drop D ss hb
  · unfold srcL
    rw [a2, List.drop_left' lp, Nat.add_sub_cancel_left, List.take_left' lw]
    exact wants_drop D ws

/-! ### lines that are nice -/
def no8 : List Nat → Bool
  | [] => true
  | c :: r => !decide ((c :: r).take 8 = sps 8) && no8 r
def smP (l : List Nat) : Bool := inV (.str (mk (l.drop (lead l)))) [.str ">>> ", .str "... "]
def lnice (l : List Nat) : Bool := !smP l && no8 (l.drop (lead l))
def NP.Nice : NP → Prop
  | .txt ls => ∀ l ∈ ls, lnice l = true
  | .ex _ _ ss ws => (∀ p ∈ ss, no8 (32 :: p.1) = true) ∧ ∀ w ∈ ws, lnice w = true

/-! ### the law's own texts -/
/-- all signs are signs -/
def okS (x : Str) : Prop := strOkL (tl x) = true
where strOkL (l : List Nat) : Bool := l.all (· < 1114112)
theorem okS_iff {x : Str} : okS x ↔ ∀ c ∈ tl x, c < 1114112 := by
  unfold okS okS.strOkL
  rw [List.all_eq_true]
  exact ⟨fun h c hc => of_decide_eq_true (h c hc), fun h c hc => decide_eq_true (h c hc)⟩
theorem okS_str {x : Str} (h : okS x) : PyData.strOk x = true := by
  unfold PyData.strOk
  rw [Array.all_eq_true_iff_forall_mem]
  intro c hc
  exact decide_eq_true (okS_iff.mp h c (Array.mem_toList_iff.mpr hc))
theorem dp_strs {K : PySem.W.Frag} {H : Hp} : ∀ (ns : List Str), DpAll K H (ns.map V.str) (ns.map PyData.str)
  | [] => .nil
  | x :: r => .cons (.str x) (dp_strs r)
theorem canLay_strs (ns : List Str) (h : ∀ x ∈ ns, okS x) : PyData.canLayAll0 (ns.map PyData.str) = true := by
  induction ns with
  | nil => rfl
  | cons x r ih =>
    have h1 := okS_str (h x (List.mem_cons_self ..))
    have h2 := ih fun y hy => h y (List.mem_cons_of_mem _ hy)
    simp only [List.map_cons, PyData.canLayAll0, PyData.canLay0, Bool.and_eq_true]
    exact ⟨h1, h2⟩
theorem depth_strs (ns : List Str) : PyData.depthAll (ns.map PyData.str) ≤ 1 := by
  induction ns with
  | nil => simp [PyData.depthAll]
  | cons x r ih => simp [PyData.depthAll, PyData.depth]; omega
theorem shaped_strs (ns : List Str) (h : ∀ x ∈ ns, okS x) : SeqAt.shaped (.list (ns.map PyData.str)) = true := by
  have h1 := canLay_strs ns h
  have h2 := depth_strs ns
  simp [SeqAt.shaped, PyData.canLay0, PyData.depth, h1]
  omega
theorem eqv_nilS (ns : List Str) : PyData.eqv (.list (ns.map PyData.str)) (.list []) = ns.isEmpty := by
  cases ns <;> simp [PyData.eqv, PyData.eqvAll]

theorem fresh_ne {H : Hp} {D A B p : Addr} {n : Int} (d : Drw H D A B n) (h : H p = none) : p ≠ D ∧ p ≠ A := by
  obtain ⟨⟨_, e1⟩, ⟨_, e2⟩, _⟩ := d.tracked
  exact ⟨(ne_of_none e1 h).symm, (ne_of_none e2 h).symm⟩
theorem Kept.fresh {D A : Addr} {H H0 H1 : Hp} (s : Same H H0) (k : Kept D A H0 H1) : Kept D A H H1 := fun b o e n1 n2 => k b o (s b o e) n1 n2
theorem laid {H H1 : Hp} {p : Addr} {o : HO} (h : L2.upd H p o = H1) (n : H p = none) : Same H H1 ∧ H1 p = some o := by
  subst h
  exact ⟨same_new n, upd_same⟩
def intsV (js : List Nat) : List V := js.map fun j : Nat => V.int (j : Int)
theorem ints_of {js : List Nat} {i : Nat} {v : V} (h : (intsV js)[i]? = some v) : ∃ j ∈ js, v = .int (j : Int) := by
  unfold intsV at h
  rw [List.getElem?_map] at h
  obtain ⟨j, hj, rfl⟩ := Option.map_eq_some_iff.mp h
  exact ⟨j, List.mem_of_getElem? hj, rfl⟩
theorem mem_le {js : List Nat} {b j : Nat} (h : js.all (· ≤ b) = true) (hj : j ∈ js) : j ≤ b := of_decide_eq_true (List.all_eq_true.mp h j hj)
def okc (l : List Nat) : Bool := l.all fun c => decide (32 ≤ c) && decide (c < 127)
def MT : List Str := ["a", "b c", ">> 1", "x >>> 1", ".. 2", "# c", "it's", "... 5", "<BLANKLINE>", "end.", ">", "E: m"]
/-- a line of text -/
def tOk (l : List Nat) : Bool := okc l && (decide (l.length ≤ 20) && (!bg (mk l) ">>>" && lnice l))
theorem mt_ok : ∀ n ∈ [0, 0, 2, 5], ∀ m ∈ MT, tOk (sps n ++ tl m) = true := by decide +kernel
theorem bl_ok : ∀ n ∈ [0, 0, 1, 3, 7], (tOk (sps n) && isBlank (sps n)) = true := by decide +kernel
/-- a source line -/
def sOk (l : List Nat) : Bool := okc l && (decide (l.length ≤ 20) && (decide (dirS (mk l) = "") && (decide (bareS l = tl (Txt.rstripChars (mk l) " ")) && no8 (32 :: l))))
def MC : List Str := ["", "# c", "  # d", "#", "   "]
def MS : List Str := ["", "# c", "z", "    y", "... 1", "'#'"]
def MX : List Str := ["x", "x = 1", "f(1)", "'#' * 2", " y", "x  ", "if a:", "1 # c", ">>> 1", "\"it's\""]
theorem mc_ok : ∀ m ∈ MC, (sOk (tl m) && remL (tl m)) = true := by decide +kernel
theorem ms_ok : ∀ m ∈ MS, sOk (tl m) = true := by decide +kernel
theorem mx_ok : ∀ m ∈ MX, (sOk (tl m) && !remL (tl m)) = true := by decide +kernel
/-- an expected line -/
def wOk (l : List Nat) : Bool := okc l && (decide (l.length ≤ 60) && (!isBlank l && (!bg (mk l) ">>>" && lnice l)))
def MW : List Str := ["1", "a b", "  c", "x ", "<BLANKLINE>", "E: m", "# w", ">> 2", "True", "_: it's", "-1"]
def MW2 : List Str := ["...", "... 2", "    ...", "9 z"]
def HD : Str := "Traceback (most recent call last):"
def MH : List Str := [HD, HD, "Traceback (innermost last):", HD ++ "  ", HD ++ " x", " Traceback (innermost last):"]
theorem mw_ok : ∀ m ∈ MW, (wOk (tl m) && !pS (tl m)) = true := by decide +kernel
theorem mw2_ok : ∀ m ∈ MW2, wOk (tl m) = true := by decide +kernel
theorem mh_ok : ∀ m ∈ MH, (wOk (tl m) && !pS (tl m)) = true := by decide +kernel
section
variable {P : Program} {w : World} {K : PySem.W.Frag} {mg : Str → Option Value} {base : Heap}
def sp_law_blank_line : Sp := fun vs H Q _ => ∃ (D A B : Addr) (n : Int), vs = [.ref D] ∧ Drw H D A B n ∧ n < 900000 ∧ ∀ (l : List Nat) (H' : Hp), tOk l = true → isBlank l = true → Drw H' D A B (n + 1) → Kept D A H H' → Q (.str (mk l)) H'
theorem ok_law_blank_line {f : Addr} {fd : FuncData} {dvs : List V} (F : Fn K "_law_blank_line" s_law_blank_line dvs f fd) (O_law_pick : Own P w K mg base "_law_pick" 3 ["draws", "things"] [] (sp_law_pick)) : FnOk P w K mg base CX0 4 f fd ["draws"] (sp_law_blank_line) := by
  refine Fn.okN F sc_law_blank_line (fun vs H Q E h => ?_) (fun cdv A outer s H vs Q E hr h => ?_)
  · obtain ⟨_, _, _, _, rfl, _⟩ := h
    rfl
  · obtain ⟨D, A1, B, n, rfl, dr, hn, k⟩ := h
    refine ⟨_, (pss_one (ps_ret (pe_op op_repS pe_str (pe_own O_law_pick (hr.mono (by decide)) (by rfl) (pa_cons (pv 0) (pa_cons (pe_lst (pa_cons pe_int (pa_cons pe_int (pa_cons pe_int (pa_cons pe_int (pa_cons pe_int pa_nil)))))) pa_nil)))))), ?_⟩
    refine ⟨.ref D, rfl, by show 5 ≤ sizeLine; decide, fun L nL => ?_⟩
    generalize hH : upd H L _ = H0
    obtain ⟨sL, eL⟩ := laid hH nL
    have LD := fresh_ne dr nL
    refine ⟨D, A1, B, L, n, intsV [0, 0, 1, 3, 7], rfl, dr.same sL, by omega, .inl eL, LD.1, LD.2, by decide, by decide, fun i v H1 hv d1 k1 => ?_⟩
    obtain ⟨j, hj, rfl⟩ := ints_of hv
    have b := bl_ok j hj
    rw [Bool.and_eq_true] at b
    have j7 : j ≤ 7 := mem_le (by decide) hj
    refine ⟨" ", (j : Int), rfl, rfl, mulOk_sp (by omega), ?_⟩
    rw [mul_sps]
    exact k (sps j) H1 b.1 b.2 d1 (k1.fresh sL)
def sp_law_text_line : Sp := fun vs H Q _ => ∃ (D A B : Addr) (n : Int), vs = [.ref D] ∧ Drw H D A B n ∧ n < 800000 ∧ ∀ (l : List Nat) (m : Int) (H' : Hp), tOk l = true → Drw H' D A B m → m ≤ n + 3 → Kept D A H H' → Q (.str (mk l)) H'
theorem ok_law_text_line {f : Addr} {fd : FuncData} {dvs : List V} (F : Fn K "_law_text_line" s_law_text_line dvs f fd) (O_law_take : Own P w K mg base "_law_take" 2 ["draws", "size"] [] (sp_law_take)) (O_law_blank_line : Own P w K mg base "_law_blank_line" 4 ["draws"] [] (sp_law_blank_line)) (O_law_pick : Own P w K mg base "_law_pick" 3 ["draws", "things"] [] (sp_law_pick)) : FnOk P w K mg base CX0 5 f fd ["draws"] (sp_law_text_line) := by
  refine Fn.okN F sc_law_text_line (fun vs H Q E h => ?_) (fun cdv A outer s H vs Q E hr h => ?_)
  · obtain ⟨_, _, _, _, rfl, _⟩ := h
    rfl
  · obtain ⟨D, A1, B, n, rfl, dr, hn, k⟩ := h
    refine ⟨_, (pss_cons (ps_set (i := 1) sc_law_text_line.nd rfl (.inl rfl) (pe_lst (pa_cons pe_str (pa_cons pe_str (pa_cons pe_str (pa_cons pe_str (pa_cons pe_str (pa_cons pe_str (pa_cons pe_str (pa_cons pe_str (pa_cons pe_str (pa_cons pe_str (pa_cons pe_str (pa_cons pe_str pa_nil))))))))))))))
      (pss_cons (ps_if (pt_cmpR op_eq (pe_own O_law_take (hr.mono (by decide)) (by rfl) (pa_cons (pv 0) (pa_cons pe_int pa_nil))) pe_int (nomark _))
          (pss_one (ps_ret (pe_own O_law_blank_line (hr.mono (by decide)) (by rfl) (pa_cons (pv 0) pa_nil))))
          pss_nil)
      (pss_one (ps_ret (pe_op op_add_str (pe_op op_repS pe_str (pe_own O_law_pick (hr.mono (by decide)) (by rfl) (pa_cons (pv 0) (pa_cons (pe_lst (pa_cons pe_int (pa_cons pe_int (pa_cons pe_int (pa_cons pe_int pa_nil))))) pa_nil)))) (pe_own O_law_pick (hr.mono (by decide)) (by rfl) (pa_cons (pv 0) (pa_cons (pv 1) pa_nil)))))))), ?_⟩
    refine ⟨by show 12 ≤ sizeLine; decide, fun S nS => ?_⟩
    generalize hH : upd H S _ = H1
    obtain ⟨sS, eS⟩ := laid hH nS
    have eS : H1 S = some (.lst (MT.map V.str)) := eS
    have SD := fresh_ne dr nS
    clear hH
    refine ⟨.ref D, rfl, D, A1, B, n, 3, rfl, dr.same sS, by omega, by decide, by decide, fun r H2 r0 r1 d2 k2 => ⟨rfl, _, rfl, ite2 (fun _ => ?_) (fun _ => ?_)⟩⟩
    · exact ⟨.ref D, rfl, D, A1, B, n + 1, rfl, d2, by omega, fun l H3 hl _ d3 k3 => k l (n + 1 + 1) H3 hl d3 (by omega) ((k2.trans k3).fresh sS)⟩
    · refine ⟨.ref D, rfl, by show 4 ≤ sizeLine; decide, fun L nL => ?_⟩
      generalize hH : upd H2 L _ = H3
      obtain ⟨sL, eL⟩ := laid hH nL
      have LD := fresh_ne d2 nL
      refine ⟨D, A1, B, L, n + 1, intsV [0, 0, 2, 5], rfl, d2.same sL, by omega, .inl eL, LD.1, LD.2, by decide, by decide, fun i v H4 hv d4 k4 => ?_⟩
      obtain ⟨j, hj, rfl⟩ := ints_of hv
      have j7 : j ≤ 7 := mem_le (by decide) hj
      have e4 := k4 _ _ (sL _ _ (k2 _ _ eS SD.1 SD.2)) SD.1 SD.2
      refine ⟨" ", (j : Int), rfl, rfl, mulOk_sp (by omega), .ref D, rfl, .ref S, rfl, D, A1, B, S, n + 1 + 1, MT.map V.str, rfl, d4, by omega, .inl e4, SD.1, SD.2, by decide, by decide, fun i2 v2 H5 hv2 d5 k5 => ?_⟩
      obtain ⟨m, rfl, hm⟩ := str_at hv2
      have ok := mt_ok j hj m (List.mem_of_getElem? hm)
      have e : Txt.mul " " (j : Int) ++ m = mk (sps j ++ tl m) := ext_tl (by
        rw [tl_append, mul_sps]
        rfl)
      have hl : (sps j ++ tl m).length ≤ 20 := by
        unfold tOk at ok
        rw [Bool.and_eq_true, Bool.and_eq_true, decide_eq_true_eq] at ok
        exact ok.2.1
      refine ⟨_, _, rfl, rfl, ?_, ?_⟩
      · have e2 := congrArg Str.length e
        rw [app_len, mk_len] at e2
        exact line_of (by omega)
      · rw [e]
        exact k _ _ H5 ok d5 (by omega) (((k2.trans (k4.fresh sL)).trans k5).fresh sS)
end

/-! ### source lines, expected lines -/
theorem Kept.free {D A C : Addr} {H H1 : Hp} (k : Kept D A H H1) (n : H1 C = none) (hD : C ≠ D) (hA : C ≠ A) : H C = none := by
  cases e : H C with
  | none => rfl
  | some o =>
    rw [k C o e hD hA] at n
    cases n
structure SrcOk (c : Bool) (ls : List (List Nat)) : Prop where
  ne : ls ≠ []
  few : ls.length ≤ 3
  ok : ∀ l ∈ ls, sOk l = true
  rem : ls.all remL = c
structure WantOk (ws : List (List Nat)) : Prop where
  few : ws.length ≤ 4
  ok : ∀ l ∈ ws, wOk l = true
  first : ∀ l r, ws = l :: r → pS l = false
theorem rowsV_snoc (ls : List (List Nat)) (m : Str) : HO.lst (((ls.map mk).map V.str) ++ [V.str m]) = rowsV (ls ++ [tl m]) := by
  unfold rowsV
  rw [List.map_append, List.map_append]
  show _ = HO.lst (((ls.map mk).map V.str) ++ [V.str (mk (tl m))])
  rw [mk_tl']
theorem rowsV_len (ls : List (List Nat)) : ((ls.map mk).map V.str).length = ls.length := by rw [List.length_map, List.length_map]
section
variable {P : Program} {w : World} {K : PySem.W.Frag} {mg : Str → Option Value} {base : Heap}
def sp_law_source_lines : Sp := fun vs H Q _ => ∃ (D A B : Addr) (n : Int) (c : Bool), vs = [.ref D, .bl c] ∧ Drw H D A B n ∧ n < 800000 ∧ ∀ (ls : List (List Nat)) (p : Addr) (m : Int) (H' : Hp), SrcOk c ls → H' p = some (rowsV ls) → H p = none → Drw H' D A B m → m ≤ n + 6 → Kept D A H H' → Q (.ref p) H'
theorem ok_law_source_lines {f : Addr} {fd : FuncData} {dvs : List V} (F : Fn K "_law_source_lines" s_law_source_lines dvs f fd) (O_law_take : Own P w K mg base "_law_take" 2 ["draws", "size"] [] (sp_law_take)) (O_law_pick : Own P w K mg base "_law_pick" 3 ["draws", "things"] [] (sp_law_pick)) (m_len : mg "len" = none) (m_range : mg "range" = none) : FnOk P w K mg base CX0 4 f fd ["draws", "is_comment"] (sp_law_source_lines) := by
  refine Fn.okN F sc_law_source_lines (fun vs H Q E h => ?_) (fun cdv A outer s H vs Q E hr h => ?_)
  · obtain ⟨_, _, _, _, _, rfl, _⟩ := h
    rfl
  · obtain ⟨D, A1, B, n, c, rfl, dr, hn, k⟩ := h
    refine ⟨_, (pss_cons (ps_if (pt_val (pv 1))
          (pss_one (ps_ret (pe_lc (own := [("k", 4)]) (g := gName 4) (tt := tYes) (by rfl) sc_law_source_lines.nd (pi_range1 rfl m_range (pa_cons (pe_op op_add pe_int (pe_own O_law_take (hr.mono (by decide)) (by rfl) (pa_cons (pv 0) (pa_cons pe_int pa_nil)))) pa_nil)) (blkOk_by (own := [("k", 4)]) (N := ["draws", "is_comment", "found", "some", "k"]) (sc := defScope s_law_source_lines) (by decide +kernel)) (fun _ _ _ _ _ => (pg_name (i := 4) sc_law_source_lines.nd rfl (.inl rfl))) (fun _ _ _ _ _ => pts_nil) (fun _ _ _ _ _ => (pe_own O_law_pick (hr.mono (by decide)) (by rfl) (pa_cons (pv 0) (pa_cons (pe_lst (pa_cons pe_str (pa_cons pe_str (pa_cons pe_str (pa_cons pe_str (pa_cons pe_str pa_nil)))))) pa_nil)))))))
          pss_nil)
      (pss_cons (ps_setLc (i := 2) (own := [("k", 4)]) (g := gName 4) (tt := tYes) (by rfl) sc_law_source_lines.nd rfl rfl (sw_true rfl rfl rfl (by decide +kernel)) (pi_range1 rfl m_range (pa_cons (pe_own O_law_take (hr.mono (by decide)) (by rfl) (pa_cons (pv 0) (pa_cons pe_int pa_nil))) pa_nil)) (blkOk_by (own := [("k", 4)]) (N := ["draws", "is_comment", "found", "some", "k"]) (sc := defScope s_law_source_lines) (by decide +kernel)) (fun _ _ _ _ _ => (pg_name (i := 4) sc_law_source_lines.nd rfl (.inl rfl))) (fun _ _ _ _ _ => pts_nil) (fun _ _ _ _ _ => (pe_own O_law_pick (hr.mono (by decide)) (by rfl) (pa_cons (pv 0) (pa_cons (pe_lst (pa_cons pe_str (pa_cons pe_str (pa_cons pe_str (pa_cons pe_str (pa_cons pe_str (pa_cons pe_str pa_nil))))))) pa_nil)))))
      (pss_cons (ps_set (i := 3) sc_law_source_lines.nd rfl (.inl rfl) (pe_lst (pa_cons pe_str (pa_cons pe_str (pa_cons pe_str (pa_cons pe_str (pa_cons pe_str (pa_cons pe_str (pa_cons pe_str (pa_cons pe_str (pa_cons pe_str (pa_cons pe_str pa_nil))))))))))))
      (pss_cons (ps_expr (pe_bm PySem.F.plainAttrs_list PySem.F.slot_list_insert PySem.F.type_list_insert mt_insert (pv 2) (pa_cons (pe_own O_law_take (hr.mono (by decide)) (by rfl) (pa_cons (pv 0) (pa_cons (pe_op op_add (pe_callB call_len_seq (by rfl) m_len PySem.boot_len (pa_cons (pv 2) pa_nil)) pe_int) pa_nil))) (pa_cons (pe_own O_law_pick (hr.mono (by decide)) (by rfl) (pa_cons (pv 0) (pa_cons (pv 3) pa_nil))) pa_nil))))
      (pss_one (ps_ret (pv 2))))))), ?_⟩
    refine ⟨.bl c, rfl, c, rfl, ?_⟩
    cases c with
    | true =>
      refine iteT ⟨.ref D, rfl, D, A1, B, n, 3, rfl, dr, by omega, by decide, by decide, fun r H1 r0 r1 d1 k1 => ⟨1, r, rfl, rfl, 1 + r, rfl, by omega, by omega, fun C nC => ?_⟩⟩
      have CD := fresh_ne d1 nC
      refine lc_range (lo := 0) (n := (1 + r).toNat) (fun i H2 => ∃ (ls : List (List Nat)) (m : Int), H2 C = some (rowsV ls) ∧ ls.length = i ∧ (∀ l ∈ ls, (sOk l && remL l) = true) ∧ Drw H2 D A1 B m ∧ m ≤ n + 1 + i ∧ Kept D A1 H1 H2) ⟨[], n + 1, upd_same, rfl, nofun, d1.new nC, by omega, Kept.of (same_new nC)⟩ ?_ ?_
      · rintro i H2 hi ⟨ls, m, eC, hl, hls, d2, hm, k2⟩
        refine ⟨rfl, ?_⟩
        unfold tYes
        show ite (true = true) _ _
        rw [if_pos rfl]
        refine ⟨.ref D, rfl, by show 5 ≤ sizeLine; decide, fun L nL => ?_⟩
        generalize hH : upd H2 L _ = H3
        obtain ⟨sL, eL⟩ := laid hH nL
        have LD := fresh_ne d2 nL
        refine ⟨D, A1, B, L, m, MC.map V.str, rfl, d2.same sL, by omega, .inl eL, LD.1, LD.2, by decide, by decide, fun i2 v H4 hv d4 k4 => ?_⟩
        obtain ⟨y, rfl, hy⟩ := str_at hv
        have e4 := k4 _ _ (sL _ _ eC) CD.1 CD.2
        refine ⟨_, e4, ?_, ls ++ [tl y], m + 1, ?_, by rw [List.length_append, hl]; rfl, fun l hl' => ?_, d4.upd CD.1 CD.2 ?_, by omega, fun b o e n1 n2 => ?_⟩
        · rw [rowsV_len]
          exact Nat.lt_of_le_of_lt (show ls.length ≤ 10 by omega) (by decide)
        · rw [upd_same, rowsV_snoc]
        · rcases List.mem_append.mp hl' with h | h
          · exact hls l h
          · rw [List.mem_singleton.mp h]
            exact mc_ok y (List.mem_of_getElem? hy)
        · obtain ⟨_, _, ⟨_, eB⟩⟩ := d1.tracked
          exact (ne_of_none eB nC).symm
        · rw [upd_ne (ne_of_none e nC)]
          exact (k2.trans (k4.fresh sL)) b o e n1 n2
      · rintro H2 ⟨ls, m, eC, hl, hls, d2, hm, k2⟩
        have h3 : ∀ l ∈ ls, sOk l = true ∧ remL l = true := fun l h => by
          have := hls l h
          rw [Bool.and_eq_true] at this
          exact this
        refine k ls C m H2 ⟨fun z => ?_, by omega, fun l h => (h3 l h).1, List.all_eq_true.mpr fun l h => (h3 l h).2⟩ eC ?_ d2 (by omega) (k1.trans k2)
        · rw [z] at hl
          have : (0 : Nat) = (1 + r).toNat := hl
          omega
        · exact k1.free nC CD.1 CD.2
    | false =>
      refine iteF ⟨.ref D, rfl, D, A1, B, n, 3, rfl, dr, by omega, by decide, by decide, fun r H1 r0 r1 d1 k1 => ⟨r, rfl, by omega, by omega, fun C nC => ?_⟩⟩
      have CD := fresh_ne d1 nC
      have CB : C ≠ B := by
        obtain ⟨_, _, ⟨_, eB⟩⟩ := d1.tracked
        exact (ne_of_none eB nC).symm
      refine lc_range (lo := 0) (n := r.toNat) (fun i H2 => ∃ (ls : List (List Nat)) (m : Int), H2 C = some (rowsV ls) ∧ ls.length = i ∧ (∀ l ∈ ls, sOk l = true) ∧ Drw H2 D A1 B m ∧ m ≤ n + 1 + i ∧ Kept D A1 H1 H2) ⟨[], n + 1, upd_same, rfl, nofun, d1.new nC, by omega, Kept.of (same_new nC)⟩ ?_ ?_
      · rintro i H2 hi ⟨ls, m, eC, hl, hls, d2, hm, k2⟩
        refine ⟨rfl, ?_⟩
        unfold tYes
        show ite (true = true) _ _
        rw [if_pos rfl]
        refine ⟨.ref D, rfl, by show 6 ≤ sizeLine; decide, fun L nL => ?_⟩
        generalize hH : upd H2 L _ = H3
        obtain ⟨sL, eL⟩ := laid hH nL
        have LD := fresh_ne d2 nL
        refine ⟨D, A1, B, L, m, MS.map V.str, rfl, d2.same sL, by omega, .inl eL, LD.1, LD.2, by decide, by decide, fun i2 v H4 hv d4 k4 => ?_⟩
        obtain ⟨y, rfl, hy⟩ := str_at hv
        have e4 := k4 _ _ (sL _ _ eC) CD.1 CD.2
        refine ⟨_, e4, ?_, ls ++ [tl y], m + 1, ?_, by rw [List.length_append, hl]; rfl, fun l hl' => ?_, d4.upd CD.1 CD.2 CB, by omega, fun b o e n1 n2 => ?_⟩
        · rw [rowsV_len]
          exact Nat.lt_of_le_of_lt (show ls.length ≤ 10 by omega) (by decide)
        · rw [upd_same, rowsV_snoc]
        · rcases List.mem_append.mp hl' with h | h
          · exact hls l h
          · rw [List.mem_singleton.mp h]
            exact ms_ok y (List.mem_of_getElem? hy)
        · rw [upd_ne (ne_of_none e nC)]
          exact (k2.trans (k4.fresh sL)) b o e n1 n2
      · rintro H2 ⟨ls, m, eC, hl, hls, d2, hm, k2⟩
        refine ⟨by show 10 ≤ sizeLine; decide, fun S nS => ?_⟩
        generalize hH : upd H2 S _ = H3
        obtain ⟨sS, eS⟩ := laid hH nS
        have SD := fresh_ne d2 nS
        have eC3 := sS _ _ eC
        have d3 := d2.same sS
        have SC : S ≠ C := (ne_of_none eC nS).symm
        refine ⟨.ref C, rfl, .inl ⟨rfl, _, SqL.of eC3⟩, .ref D, rfl, .ref C, rfl, C, _, rfl, .inl (SqL.of eC3), _, _, rfl, rfl, D, A1, B, m, _, rfl, d3, by omega, ?_, ?_, fun u H4 u0 u1 d4 k4 => ⟨.ref D, rfl, .ref S, rfl, D, A1, B, S, m + 1, MX.map V.str, rfl, d4, by omega, .inl (k4 _ _ eS SD.1 SD.2), SD.1, SD.2, by decide, by decide, fun i2 v H5 hv d5 k5 => ?_⟩⟩
        · rw [rowsV_len]
          omega
        · rw [rowsV_len]
          omega
        obtain ⟨y, rfl, hy⟩ := str_at hv
        have ok := mx_ok y (List.mem_of_getElem? hy)
        rw [Bool.and_eq_true] at ok
        rw [rowsV_len] at u1
        have e5 := k5 _ _ (k4 _ _ eC3 CD.1 CD.2) CD.1 CD.2
        have ee : ((ls.map mk).map V.str).take u.toNat ++ [V.str y] ++ ((ls.map mk).map V.str).drop u.toNat = ((ls.take u.toNat ++ [tl y] ++ ls.drop u.toNat).map mk).map V.str := by
          rw [List.map_append, List.map_append, List.map_append, List.map_append, List.map_take, List.map_take, List.map_drop, List.map_drop]
          show _ = ((ls.map mk).map V.str).take u.toNat ++ [V.str (mk (tl y))] ++ _
          rw [mk_tl']
        refine ⟨C, _, u, .str y, rfl, rfl, e5, ?_, u0, by omega, .ref C, rfl, k (ls.take u.toNat ++ [tl y] ++ ls.drop u.toNat) C (m + 1 + 1) _ ⟨by simp, ?_, fun l h => ?_, ?_⟩ ?_ (k1.free nC CD.1 CD.2) (d5.upd CD.1 CD.2 CB) (by omega) ?_⟩
        · rw [rowsV_len]
          exact Nat.lt_of_le_of_lt (show ls.length ≤ 10 by omega) (by decide)
        · rw [List.length_append, List.length_append, List.length_take, List.length_drop]
          show min u.toNat ls.length + 1 + _ ≤ 3
          omega
        · rcases List.mem_append.mp h with h | h
          · rcases List.mem_append.mp h with h | h
            · exact hls l (List.mem_of_mem_take h)
            · rw [List.mem_singleton.mp h]
              exact ok.1
          · exact hls l (List.mem_of_mem_drop h)
        · rw [List.all_append, List.all_append]
          have : [tl y].all remL = false := by
            show (remL (tl y) && true) = false
            rw [Bool.and_true]
            cases hr : remL (tl y) with
            | false => rfl
            | true =>
              rw [hr] at ok
              cases ok.2
          rw [this, Bool.and_false, Bool.false_and]
        · rw [upd_same, ee]
          rfl
        · refine fun b o e n1 n2 => ?_
          have e1 := k1 b o e n1 n2
          rw [upd_ne (ne_of_none e1 nC)]
          exact k5 _ _ (k4 _ _ (sS _ _ (k2 _ _ e1 n1 n2)) n1 n2) n1 n2
end
section
variable {P : Program} {w : World} {K : PySem.W.Frag} {mg : Str → Option Value} {base : Heap}
def sp_law_want_lines : Sp := fun vs H Q _ => ∃ (D A B : Addr) (n : Int), vs = [.ref D] ∧ Drw H D A B n ∧ n < 800000 ∧ ∀ (ws : List (List Nat)) (p : Addr) (m : Int) (H' : Hp), WantOk ws → H' p = some (rowsV ws) → H p = none → Drw H' D A B m → m ≤ n + 7 → Kept D A H H' → Q (.ref p) H'
theorem ok_law_want_lines {f : Addr} {fd : FuncData} {dvs : List V} (F : Fn K "_law_want_lines" s_law_want_lines dvs f fd) (O_law_pick : Own P w K mg base "_law_pick" 3 ["draws", "things"] [] (sp_law_pick)) (O_law_take : Own P w K mg base "_law_take" 2 ["draws", "size"] [] (sp_law_take)) (m_int : mg "int" = none) (m_range : mg "range" = none) : FnOk P w K mg base CX0 4 f fd ["draws"] (sp_law_want_lines) := by
  refine Fn.okN F sc_law_want_lines (fun vs H Q E h => ?_) (fun cdv A outer s H vs Q E hr h => ?_)
  · obtain ⟨_, _, _, _, rfl, _⟩ := h
    rfl
  · obtain ⟨D, A1, B, n, rfl, dr, hn, k⟩ := h
    refine ⟨_, (pss_cons (ps_par (i := 1) (j := 2) (by rfl) sc_law_want_lines.nd rfl rfl (by decide) rfl rfl (pa_cons (pe_lst pa_nil) (pa_cons (pe_lst (pa_cons pe_str (pa_cons pe_str (pa_cons pe_str (pa_cons pe_str (pa_cons pe_str (pa_cons pe_str (pa_cons pe_str (pa_cons pe_str (pa_cons pe_str (pa_cons pe_str (pa_cons pe_str pa_nil)))))))))))) pa_nil)) (by rfl))
      (pss_cons (ps_for PassesOwn.never rfl (pi_range1 rfl m_range (pa_cons (pe_own O_law_pick (hr.mono (by decide)) (by rfl) (pa_cons (pv 0) (pa_cons (pe_lst (pa_cons pe_int (pa_cons pe_int (pa_cons pe_int (pa_cons pe_int (pa_cons pe_int pa_nil)))))) pa_nil))) pa_nil)) (pg_name (i := 3) sc_law_want_lines.nd rfl (.inl rfl))
          (pss_one (ps_expr (pe_bm PySem.F.plainAttrs_list PySem.F.slot_list_append PySem.F.type_list_append mt_append (pv 1) (pa_cons (pe_own O_law_pick (hr.mono (by decide)) (by rfl) (pa_cons (pv 0) (pa_cons (pe_op op_cat (pv 2) (pe_op op_rep (pe_lst (pa_cons pe_str (pa_cons pe_str (pa_cons pe_str (pa_cons pe_str pa_nil))))) (pe_callTy call_int1 (by rfl) m_int (by decide +kernel) (pa_cons (pe_cmpR op_gt (pv 3) pe_int (nomark _)) pa_nil)))) pa_nil))) pa_nil)))))
      (pss_cut (ps_if (PW.pt (pw_and (pt_cmpR (op_neD hr.units) (pv 1) (pe_lst pa_nil) (nomark _)) (pw_and1 (pt_cmpR op_eq (pe_own O_law_take (hr.mono (by decide)) (by rfl) (pa_cons (pv 0) (pa_cons pe_int pa_nil))) pe_int (nomark _)))))
          (pss_cons (ps_set (i := 4) sc_law_want_lines.nd rfl (.inl rfl) pe_str)
            (pss_cons (ps_set (i := 5) sc_law_want_lines.nd rfl (.inl rfl) (pe_lst (pa_cons (pv 4) (pa_cons (pv 4) (pa_cons pe_str (pa_cons (pe_op op_add_str (pv 4) pe_str) pa_nil))))))
            (pss_one (ps_asg (pe_own O_law_pick (hr.mono (by decide)) (by rfl) (pa_cons (pv 0) (pa_cons (pe_op op_cat (pv 5) (pe_lst (pa_cons (pe_op op_add_str (pv 4) pe_str) (pa_cons pe_str pa_nil)))) pa_nil))) (pg_sub (pv 1) pe_int set_list)))))
          pss_nil)
      (pss_one (ps_ret (pv 1)))))), ?_⟩
    refine ⟨by show 0 ≤ sizeLine; decide, fun F nF => ⟨by show 11 ≤ sizeLine; decide, fun S nS => ?_⟩⟩
    have FD := fresh_ne dr nF
    have FB : F ≠ B := by
      obtain ⟨_, _, ⟨_, eB⟩⟩ := dr.tracked
      exact (ne_of_none eB nF).symm
    have sF := same_new (o := .lst []) nF
    have dF := dr.same sF
    have eF : (upd H F (.lst [])) F = some (rowsV []) := upd_same
    have nSH : H S = none := sF.free nS
    have SD := fresh_ne dF nS
    have SF : S ≠ F := (ne_of_none eF nS).symm
    generalize hH : upd (upd H F (.lst [])) S _ = H1
    obtain ⟨sS, eS⟩ := laid hH nS
    have eS : H1 S = some (.lst (MW.map V.str)) := eS
    have d1 := dF.same sS
    have eF1 := sS _ _ eF
    have s1 : Same H H1 := sF.trans sS
    clear hH sS sF dF eF nS
    refine ⟨_, _, rfl, .ref D, rfl, by show 5 ≤ sizeLine; decide, fun L nL => ?_⟩
    generalize hH : upd H1 L _ = H2
    obtain ⟨sL, eL⟩ := laid hH nL
    have LD := fresh_ne d1 nL
    refine ⟨D, A1, B, L, n, intsV [0, 1, 1, 2, 4], rfl, d1.same sL, by omega, .inl eL, LD.1, LD.2, by decide, by decide, fun i v H3 hv d3 k3 => ?_⟩
    obtain ⟨j, hj, rfl⟩ := ints_of hv
    have j4 : j ≤ 4 := mem_le (by decide) hj
    have eF3 := k3 _ _ (sL _ _ eF1) FD.1 FD.2
    have eS3 := k3 _ _ (sL _ _ eS) SD.1 SD.2
    have k13 : Kept D A1 H H3 := k3.fresh (s1.trans sL)
    clear hH sL eL LD nL hv hj eF1 eS
    refine ⟨(j : Int), rfl, by omega, by omega, for_range (lo := 0) (n := ((j : Int)).toNat) (fun i σ H4 => ∃ (ws : List (List Nat)) (m : Int) (v3 : Option V), σ = [some (.ref D), some (.ref F), some (.ref S), v3, none, none] ∧ H4 F = some (rowsV ws) ∧ ws.length = i ∧ WantOk ws ∧ Drw H4 D A1 B m ∧ m ≤ n + 1 + i ∧ Kept D A1 H H4 ∧ H4 S = some (.lst (MW.map V.str))) ⟨[], n + 1, none, rfl, eF3, rfl, ⟨by decide, nofun, nofun⟩, d3, by omega, k13, eS3⟩ ?_ ?_⟩
    · rintro i σ H4 hi ⟨ws, m, v3, rfl, eF4, hl, hw, d4, hm, k4, eS4⟩
      have n1 := fun (b : Addr) (h : H4 b = none) => h
      refine ⟨.ref F, rfl, .inl ⟨rfl, _, SqL.of eF4⟩, .ref D, rfl, .ref S, rfl, by show 4 ≤ sizeLine; decide, fun M nM => ?_⟩
      generalize hH : upd H4 M _ = H5
      obtain ⟨sM, eM⟩ := laid hH nM
      refine ⟨.int (0 + (i : Nat)), rfl, _, _, rfl, rfl, .inr ⟨_, rfl, ?_⟩⟩
      obtain ⟨u, hu, hu1, hxs⟩ : ∃ u : Nat, (if decide ((0 : Int) < 0 + (i : Nat)) = true then (1 : Int) else 0) = (u : Int) ∧ u ≤ 1 ∧ ∀ y ∈ MW ++ (if u = 0 then [] else MW2), wOk (tl y) = true ∧ (i = 0 → pS (tl y) = false) := by
        by_cases h0 : i = 0
        · refine ⟨0, by rw [h0]; rfl, by omega, fun y hy => ?_⟩
          rw [if_pos rfl, List.append_nil] at hy
          have := mw_ok y hy
          rw [Bool.and_eq_true, Bool.not_eq_true'] at this
          exact ⟨this.1, fun _ => this.2⟩
        · refine ⟨1, by rw [decide_eq_true (by omega)]; rfl, by omega, fun y hy => ⟨?_, fun z => absurd z h0⟩⟩
          rcases List.mem_append.mp hy with h | h
          · have := mw_ok y h
            rw [Bool.and_eq_true] at this
            exact this.1
          · exact mw2_ok y h
      rw [hu]
      refine ⟨M, (u : Int), MW2.map V.str, rfl, rfl, eM, by omega, by omega, ?_, fun R nR => ?_⟩
      · have : (MW2.map V.str).length = 4 := rfl
        rw [this]
        exact Nat.le_trans (show 4 * ((u : Int)).toNat ≤ 4 by omega) (by decide)
      have eR : (List.replicate ((u : Int)).toNat (MW2.map V.str)).flatten = (if u = 0 then [] else MW2).map V.str := by
        rcases Nat.le_one_iff_eq_zero_or_eq_one.mp hu1 with rfl | rfl
        · rfl
        · rfl
      rw [eR]
      have sR := same_new (o := .lst ((if u = 0 then [] else MW2).map V.str)) nR
      refine ⟨S, R, _, _, rfl, rfl, sR _ _ (sM _ _ eS4), upd_same, ?_, fun T nT => ?_⟩
      · have a1 : (MW.map V.str).length = 11 := rfl
        have a2 : ((if u = 0 then [] else MW2).map V.str).length ≤ 4 := by split <;> decide
        exact Nat.le_trans (show (MW.map V.str).length + _ ≤ 15 by omega) (by decide)
      rw [← List.map_append]
      have sT := same_new (o := .lst ((MW ++ (if u = 0 then [] else MW2)).map V.str)) nT
      have s6 := sM.trans (sR.trans sT)
      have d6 := d4.same s6
      have TD := fresh_ne ((d4.same sM).same sR) nT
      refine ⟨D, A1, B, T, m, _, rfl, d6, by omega, .inl upd_same, TD.1, TD.2, ?_, ?_, fun i2 v2 H7 hv2 d7 k7 => ?_⟩
      · have : ((MW ++ (if u = 0 then [] else MW2)).map V.str).length = 11 + ((if u = 0 then [] else MW2) : List Str).length := by
          rw [List.length_map, List.length_append]
          rfl
        omega
      · have : ((MW ++ (if u = 0 then [] else MW2)).map V.str).length = 11 + ((if u = 0 then [] else MW2) : List Str).length := by
          rw [List.length_map, List.length_append]
          rfl
        have : ((if u = 0 then [] else MW2) : List Str).length ≤ 4 := by split <;> decide
        omega
      obtain ⟨y, rfl, hy⟩ := str_at hv2
      obtain ⟨y1, y2⟩ := hxs y (List.mem_of_getElem? hy)
      have e7 := k7 _ _ (s6 _ _ eF4) FD.1 FD.2
      have e7S := k7 _ _ (s6 _ _ eS4) SD.1 SD.2
      refine ⟨F, _, _, rfl, rfl, e7, ?_, ws ++ [tl y], m + 1, _, rfl, ?_, by rw [List.length_append, hl]; rfl, ⟨?_, fun l h => ?_, fun l r e => ?_⟩, d7.upd FD.1 FD.2 FB, by omega, fun b o e nb1 nb2 => ?_, ?_⟩
      · rw [rowsV_len]
        exact Nat.lt_of_le_of_lt (show ws.length ≤ 10 by omega) (by decide)
      · rw [upd_same, rowsV_snoc]
      · rw [List.length_append]
        show ws.length + 1 ≤ 4
        omega
      · rcases List.mem_append.mp h with h | h
        · exact hw.ok l h
        · rw [List.mem_singleton.mp h]
          exact y1
      · cases ws with
        | nil =>
          have e2 : tl y = l := List.head_eq_of_cons_eq (show tl y :: [] = l :: r from e)
          rw [← e2]
          exact y2 hl.symm
        | cons a ws' =>
          have e2 : a = l := List.head_eq_of_cons_eq (show a :: (ws' ++ [tl y]) = l :: r from e)
          rw [← e2]
          exact hw.first a ws' rfl
      · rw [upd_ne (ne_of_none e nF)]
        exact k7 _ _ (s6 _ _ (k4 _ _ e nb1 nb2)) nb1 nb2
      · rw [upd_ne SF]
        exact e7S
    · rintro σ H4 ⟨ws, m, v3, rfl, eF4, hl, hw, d4, hm, k4, eS4⟩
      have hl4 : ws.length ≤ 4 := hw.few
      have oks : ∀ x ∈ ws.map mk, okS x := fun x hx => by
        obtain ⟨l, h, rfl⟩ := List.mem_map.mp hx
        refine okS_iff.mpr fun c hc => ?_
        have h1 := hw.ok l h
        unfold wOk okc at h1
        rw [Bool.and_eq_true, List.all_eq_true] at h1
        have h2 := h1.1 c hc
        rw [Bool.and_eq_true, decide_eq_true_eq, decide_eq_true_eq] at h2
        omega
      have fin : ∀ (ws' : List (List Nat)) (m' : Int) (H' : Hp) (v4 v5 : Option V), WantOk ws' → H' F = some (rowsV ws') → Drw H' D A1 B m' → m' ≤ n + 7 → Kept D A1 H H' → ∃ (ws : List (List Nat)) (m : Int) (v4' v5' : Option V), [some (V.ref D), some (.ref F), some (.ref S), v3, v4, v5] = [some (.ref D), some (.ref F), some (.ref S), v3, v4', v5'] ∧ WantOk ws ∧ H' F = some (rowsV ws) ∧ Drw H' D A1 B m ∧ m ≤ n + 7 ∧ Kept D A1 H H' := fun ws' m' H' v4 v5 h1 h2 h3 h4 h5 => ⟨ws', m', v4, v5, rfl, h1, h2, h3, h4, h5⟩
      refine ⟨fun σ' H' => ∃ (ws : List (List Nat)) (m : Int) (v4 v5 : Option V), σ' = [some (.ref D), some (.ref F), some (.ref S), v3, v4, v5] ∧ WantOk ws ∧ H' F = some (rowsV ws) ∧ Drw H' D A1 B m ∧ m ≤ n + 7 ∧ Kept D A1 H H', ?_, ?_⟩
      · refine ⟨.ref F, rfl, by show 0 ≤ sizeLine; decide, fun Z nZ => ⟨_, _, .lst (SqL.of (same_new nZ _ _ eF4)) (dp_strs _), .lst (SqL.of upd_same) .nil, shaped_strs _ oks, shaped_strs [] nofun, _, rfl, ?_⟩⟩
        rw [eqv_nilS]
        have sZ := same_new (o := .lst []) nZ
        have dZ := d4.same sZ
        have eZ := sZ _ _ eF4
        have kZ : Kept D A1 H (upd H4 Z (.lst [])) := k4.trans (Kept.of sZ)
        generalize upd H4 Z (.lst []) = H5 at sZ dZ eZ kZ ⊢
        cases ws with
        | nil => exact iteF (iteF (fin _ m _ _ _ hw eZ dZ (by omega) kZ))
        | cons a ws' =>
          refine iteT ⟨.ref D, rfl, D, A1, B, m, 3, rfl, dZ, by omega, by decide, by decide, fun r H6 r0 r1 d6 k6 => ⟨rfl, _, rfl, ite2 (fun _ => ?_) (fun _ => ?_)⟩⟩
          · refine ⟨.str HD, rfl, .str HD, rfl, .str HD, rfl, _, _, rfl, rfl, by decide +kernel, by show 4 ≤ sizeLine; decide, fun Y nY => ?_⟩
            have sY := same_new (o := .lst [V.str HD, .str HD, .str "Traceback (innermost last):", .str (HD ++ "  ")]) nY
            refine ⟨.ref D, rfl, .ref Y, rfl, .str HD, rfl, _, _, rfl, rfl, by decide +kernel, by show 2 ≤ sizeLine; decide, fun W nW => ?_⟩
            have sW := same_new (o := .lst [V.str (HD ++ " x"), .str " Traceback (innermost last):"]) nW
            refine ⟨Y, W, _, _, rfl, rfl, sW _ _ upd_same, upd_same, by show 6 ≤ sizeLine; decide, fun T nT => ?_⟩
            have sT := same_new (o := .lst (MH.map V.str)) nT
            have s7 := sY.trans (sW.trans sT)
            have TD := fresh_ne ((d6.same sY).same sW) nT
            refine ⟨D, A1, B, T, m + 1, MH.map V.str, rfl, d6.same s7, by omega, .inl upd_same, TD.1, TD.2, by decide, by decide, fun i2 v2 H8 hv2 d8 k8 => ?_⟩
            obtain ⟨y, rfl, hy⟩ := str_at hv2
            have y1 := mh_ok y (List.mem_of_getElem? hy)
            rw [Bool.and_eq_true, Bool.not_eq_true'] at y1
            have e8 := k8 _ _ (s7 _ _ (k6 _ _ eZ FD.1 FD.2)) FD.1 FD.2
            refine ⟨.ref F, rfl, F, _, 0, 0, rfl, rfl, e8, by rw [rowsV_len]; unfold ixN; rw [if_pos (by decide), if_pos (by rw [List.length_cons]; omega)]; rfl, fin (tl y :: ws') (m + 1 + 1) _ _ _ ⟨hl4, fun l h => ?_, fun l r e => ?_⟩ ?_ (d8.upd FD.1 FD.2 FB) (by omega) (fun b o e nb1 nb2 => ?_)⟩
            · rcases List.mem_cons.mp h with rfl | h
              · exact y1.1
              · exact hw.ok l (List.mem_cons_of_mem _ h)
            · have e2 : tl y = l := List.head_eq_of_cons_eq e
              rw [← e2]
              exact y1.2
            · rw [upd_same]
              show some (HO.lst (V.str y :: ((ws'.map mk).map V.str))) = some (.lst (V.str (mk (tl y)) :: ((ws'.map mk).map V.str)))
              rw [mk_tl']
            · rw [upd_ne (ne_of_none e nF)]
              exact k8 _ _ (s7 _ _ (k6 _ _ (kZ _ _ e nb1 nb2) nb1 nb2)) nb1 nb2
          · exact fin _ (m + 1) _ _ _ hw (k6 _ _ eZ FD.1 FD.2) d6 (by omega) (kZ.trans k6)
      · rintro σ' H' ⟨ws', m', v4, v5, rfl, hw', eF', d', hm', k'⟩
        exact ⟨.ref F, rfl, k ws' F m' H' hw' eF' nF d' hm' k'⟩
end

/-! ### drawn parts -/
theorem nil_or_snoc {α : Type} (l : List α) : l = [] ∨ ∃ l' a, l = l' ++ [a] := by
  rcases List.eq_nil_or_concat l with e | ⟨l', a, e⟩
  · exact .inl e
  · exact .inr ⟨l', a, by rw [e, List.concat_eq_append]⟩
def szL (b : Nat) (l : List Nat) : Prop := okc l = true ∧ l.length ≤ b
def NP.Sz : NP → Prop
  | .txt ls => ls.length ≤ 4 ∧ ∀ l ∈ ls, szL 20 l
  | .ex _ d ss ws => d ≤ 4 ∧ ss.length ≤ 3 ∧ (∀ p ∈ ss, szL 20 p.1) ∧ ws.length ≤ 4 ∧ ∀ l ∈ ws, szL 60 l
def kindS (c : Bool) : Str := if c = true then "comment" else "example"
/-- a part as data, in the heap; its own lists stand apart from some places -/
def PtAt (av : List Addr) (H : Hp) (t : Addr) : NP → Prop
  | .txt ls => ∃ L : Addr, H t = some (.tup [.str "text", .ref L]) ∧ H L = some (rowsV ls) ∧ L ∉ av
  | .ex c d ss ws => ∃ S W : Addr, H t = some (.tup [.str (kindS c), .int (d : Int), .ref S, .ref W]) ∧ H S = some (rowsV (ss.map (·.1))) ∧ H W = some (rowsV ws) ∧ S ∉ av ∧ W ∉ av
def PtsAt (av : List Addr) (H : Hp) : List Addr → List NP → Prop
  | [], [] => True
  | t :: ts, p :: ps => PtAt av H t p ∧ PtsAt av H ts ps
  | _, _ => False
/-- what keeps tuples, and lists that stand apart -/
def KeepT (av : List Addr) (H H' : Hp) : Prop := ∀ b o, H b = some o → ((∃ xs, o = .tup xs) ∨ b ∉ av) → H' b = some o
theorem KeepT.of {av : List Addr} {H H' : Hp} (s : Same H H') : KeepT av H H' := fun b o e _ => s b o e
theorem KeepT.trans {av : List Addr} {H H' H'' : Hp} (h : KeepT av H H') (k : KeepT av H' H'') : KeepT av H H'' := fun b o e n => k b o (h b o e n) n
theorem KeepT.kept {av : List Addr} {D A B : Addr} {n : Int} {H H' : Hp} (d : Drw H D A B n) (k : Kept D A H H') (hD : D ∈ av) (hA : A ∈ av) : KeepT av H H' := fun b o e h => by
  obtain ⟨as, bs, c, h1, h2, _⟩ := d.ex
  rcases h with ⟨xs, rfl⟩ | h
  · refine k b _ e ?_ ?_
    · rintro rfl
      rw [h1] at e
      cases e
    · rintro rfl
      rw [h2] at e
      cases e
  · exact k b o e (fun z => h (z ▸ hD)) fun z => h (z ▸ hA)
theorem KeepT.upd {av : List Addr} {H : Hp} {C : Addr} {xs : List V} {o : HO} (e : H C = some (.lst xs)) (hC : C ∈ av) : KeepT av H (L2.upd H C o) := fun b u eb h => by
  refine (upd_ne ?_).trans eb
  rintro rfl
  rcases h with ⟨ys, rfl⟩ | h
  · rw [e] at eb
    cases eb
  · exact h hC
theorem PtAt.keep {av : List Addr} {H H' : Hp} {t : Addr} (k : KeepT av H H') : ∀ {p : NP}, PtAt av H t p → PtAt av H' t p
  | .txt _, ⟨L, h1, h2, h3⟩ => ⟨L, k _ _ h1 (.inl ⟨_, rfl⟩), k _ _ h2 (.inr h3), h3⟩
  | .ex _ _ _ _, ⟨S, W, h1, h2, h3, h4, h5⟩ => ⟨S, W, k _ _ h1 (.inl ⟨_, rfl⟩), k _ _ h2 (.inr h4), k _ _ h3 (.inr h5), h4, h5⟩
theorem PtAt.weak {av av' : List Addr} {H : Hp} {t : Addr} (h : ∀ a ∈ av', a ∈ av) : ∀ {p : NP}, PtAt av H t p → PtAt av' H t p
  | .txt _, ⟨L, h1, h2, h3⟩ => ⟨L, h1, h2, fun z => h3 (h _ z)⟩
  | .ex _ _ _ _, ⟨S, W, h1, h2, h3, h4, h5⟩ => ⟨S, W, h1, h2, h3, fun z => h4 (h _ z), fun z => h5 (h _ z)⟩
theorem PtsAt.keep {av : List Addr} {H H' : Hp} (k : KeepT av H H') : ∀ {ts : List Addr} {ps : List NP}, PtsAt av H ts ps → PtsAt av H' ts ps
  | [], [], _ => trivial
  | _ :: _, _ :: _, h => ⟨h.1.keep k, PtsAt.keep k h.2⟩
  | [], _ :: _, h => h.elim
  | _ :: _, [], h => h.elim
theorem PtsAt.weak {av av' : List Addr} {H : Hp} (k : ∀ a ∈ av', a ∈ av) : ∀ {ts : List Addr} {ps : List NP}, PtsAt av H ts ps → PtsAt av' H ts ps
  | [], [], _ => trivial
  | _ :: _, _ :: _, h => ⟨h.1.weak k, PtsAt.weak k h.2⟩
  | [], _ :: _, h => h.elim
  | _ :: _, [], h => h.elim
theorem PtsAt.snoc {av : List Addr} {H : Hp} {t : Addr} {p : NP} (h : PtAt av H t p) : ∀ {ts : List Addr} {ps : List NP}, PtsAt av H ts ps → PtsAt av H (ts ++ [t]) (ps ++ [p])
  | [], [], _ => ⟨h, trivial⟩
  | _ :: _, _ :: _, k => ⟨k.1, PtsAt.snoc h k.2⟩
  | [], _ :: _, k => k.elim
  | _ :: _, [], k => k.elim
theorem PtsAt.len {av : List Addr} {H : Hp} : ∀ {ts : List Addr} {ps : List NP}, PtsAt av H ts ps → ts.length = ps.length
  | [], [], _ => rfl
  | _ :: _, _ :: _, h => congrArg Nat.succ (PtsAt.len h.2)
  | [], _ :: _, h => h.elim
  | _ :: _, [], h => h.elim
theorem PtsAt.get {av : List Addr} {H : Hp} : ∀ {ts : List Addr} {ps : List NP} {i : Nat} {t : Addr}, PtsAt av H ts ps → ts[i]? = some t → ∃ p, ps[i]? = some p ∧ PtAt av H t p
  | [], _, i, t, _, h => by cases h
  | _ :: _, [], _, _, h, _ => h.elim
  | a :: ts, c :: cs, 0, t, h, e => by
    cases e
    exact ⟨c, rfl, h.1⟩
  | a :: ts, c :: cs, i + 1, t, h, e => by
    obtain ⟨d, h1, h2⟩ := PtsAt.get (i := i) h.2 e
    exact ⟨d, h1, h2⟩
theorem SeqOk.snoc : ∀ {ps : List NP} {q : NP}, SeqOk ps → q.Ok → (∀ p, ps.getLast? = some p → q.First ∧ (p.isTxt = true → q.isTxt = false)) → SeqOk (ps ++ [q])
  | [], q, _, hq, _ => ⟨hq, fun _ _ e => (by cases e), trivial⟩
  | [p], q, h, hq, hl => ⟨h.1, fun q' r' e => (by
      cases e
      exact hl p rfl), hq, fun _ _ e => (by cases e), trivial⟩
  | p :: p2 :: r, q, h, hq, hl => ⟨h.1, fun q' r' e => (by
      cases e
      exact h.2.1 _ _ rfl), SeqOk.snoc h.2.2 hq fun p' hp' => hl p' (by rw [List.getLast?_cons_cons]; exact hp')⟩
theorem okc_okS {l : List Nat} (h : okc l = true) : okS (mk l) := okS_iff.mpr fun c hc => by
  unfold okc at h
  rw [List.all_eq_true] at h
  have h2 := h c hc
  rw [Bool.and_eq_true, decide_eq_true_eq, decide_eq_true_eq] at h2
  omega
theorem rows_okS {ls : List (List Nat)} {b : Nat} (h : ∀ l ∈ ls, szL b l) : ∀ x ∈ ls.map mk, okS x := fun x hx => by
  obtain ⟨l, hl, rfl⟩ := List.mem_map.mp hx
  exact okc_okS (h l hl).1
theorem kind_okS (c : Bool) : okS (kindS c) := by cases c <;> (unfold okS; decide +kernel)
/-- parts as plain data -/
theorem dp_pts {K : PySem.W.Frag} {av : List Addr} {H : Hp} : ∀ {ts : List Addr} {ps : List NP}, PtsAt av H ts ps → (∀ p ∈ ps, p.Sz) → ∃ ds, DpAll K H (ts.map V.ref) ds ∧ ds.length = ps.length ∧ PyData.canLayAll0 ds = true ∧ PyData.depthAll ds ≤ 3
  | [], [], _, _ => ⟨[], .nil, rfl, rfl, Nat.zero_le _⟩
  | [], _ :: _, h, _ => h.elim
  | _ :: _, [], h, _ => h.elim
  | t :: ts, p :: ps, h, hs => by
    obtain ⟨ds, d1, d2, d3, d4⟩ := dp_pts (K := K) h.2 fun q hq => hs q (List.mem_cons_of_mem _ hq)
    have h1 := h.1
    have hp := hs p (List.mem_cons_self ..)
    cases p with
    | txt ls =>
      obtain ⟨L, e1, e2, _⟩ := h1
      refine ⟨.tuple [.str "text", .list ((ls.map mk).map PyData.str)] :: ds, .cons (.tup (SqT.of e1) (.cons (.str _) (.cons (.lst (SqL.of e2) (dp_strs _)) .nil))) d1, congrArg Nat.succ d2, ?_, ?_⟩
      · have c1 := canLay_strs _ (rows_okS hp.2)
        have c2 : PyData.strOk "text" = true := by decide +kernel
        simp only [PyData.canLayAll0, PyData.canLay0, Bool.and_eq_true]
        exact ⟨⟨c2, c1, trivial⟩, d3⟩
      · have g1 := depth_strs (ls.map mk)
        simp only [PyData.depthAll, PyData.depth]
        omega
    | ex c d ss ws =>
      obtain ⟨S, W, e1, e2, e3, _⟩ := h1
      refine ⟨.tuple [.str (kindS c), .int (d : Int), .list (((ss.map (·.1)).map mk).map PyData.str), .list ((ws.map mk).map PyData.str)] :: ds, .cons (.tup (SqT.of e1) (.cons (.str _) (.cons (.int _) (.cons (.lst (SqL.of e2) (dp_strs _)) (.cons (.lst (SqL.of e3) (dp_strs _)) .nil))))) d1, congrArg Nat.succ d2, ?_, ?_⟩
      · have c1 := canLay_strs _ (rows_okS (ls := ss.map (·.1)) (b := 20) fun l hl => by
          obtain ⟨q, hq, rfl⟩ := List.mem_map.mp hl
          exact hp.2.2.1 q hq)
        have c3 := canLay_strs _ (rows_okS hp.2.2.2.2)
        have c2 := okS_str (kind_okS c)
        simp only [PyData.canLayAll0, PyData.canLay0, Bool.and_eq_true]
        exact ⟨⟨c2, trivial, c1, c3, trivial⟩, d3⟩
      · have g1 := depth_strs ((ss.map (·.1)).map mk)
        have g2 := depth_strs (ws.map mk)
        simp only [PyData.depthAll, PyData.depth]
        omega
theorem shaped_list {ds : List PyData} (h : PyData.canLayAll0 ds = true) (k : PyData.depthAll ds ≤ 60) : SeqAt.shaped (.list ds) = true := by
  simp [SeqAt.shaped, PyData.canLay0, PyData.depth, h]
  omega
theorem eqv_nilD (ds : List PyData) : PyData.eqv (.list ds) (.list []) = ds.isEmpty := by
  cases ds <;> simp [PyData.eqv, PyData.eqvAll]
def DrawnOk (ps : List NP) : Prop := SeqOk ps ∧ (∀ p ∈ ps, p.Sz ∧ p.Nice) ∧ ps.length ≤ 7
section
variable {P : Program} {w : World} {K : PySem.W.Frag} {mg : Str → Option Value} {base : Heap}
def sp_law_drawn_parts : Sp := fun vs H Q _ => ∃ (D A B : Addr) (n : Int) (most : Nat), vs = [.ref D, .int (most : Int)] ∧ most ≤ 7 ∧ Drw H D A B n ∧ n < 700000 ∧ ∀ (ps : List NP) (ts : List Addr) (p : Addr) (m : Int) (H' : Hp), DrawnOk ps → PtsAt [D, A, B] H' ts ps → H' p = some (.lst (ts.map V.ref)) → H p = none → Drw H' D A B m → m ≤ n + 170 → Kept D A H H' → Q (.ref p) H'
theorem ok_law_drawn_parts {f : Addr} {fd : FuncData} {dvs : List V} (F : Fn K "_law_drawn_parts" s_law_drawn_parts dvs f fd) (O_law_take : Own P w K mg base "_law_take" 2 ["draws", "size"] [] (sp_law_take)) (O_law_text_line : Own P w K mg base "_law_text_line" 5 ["draws"] [] (sp_law_text_line)) (O_law_blank_line : Own P w K mg base "_law_blank_line" 4 ["draws"] [] (sp_law_blank_line)) (O_law_source_lines : Own P w K mg base "_law_source_lines" 4 ["draws", "is_comment"] [] (sp_law_source_lines)) (O_law_pick : Own P w K mg base "_law_pick" 3 ["draws", "things"] [] (sp_law_pick)) (O_law_want_lines : Own P w K mg base "_law_want_lines" 4 ["draws"] [] (sp_law_want_lines)) (m_int : mg "int" = none) (m_range : mg "range" = none) : FnOk P w K mg base CX0 6 f fd ["draws", "most"] (sp_law_drawn_parts) := by
  refine Fn.okN F sc_law_drawn_parts (fun vs H Q E h => ?_) (fun cdv A outer s H vs Q E hr h => ?_)
  · obtain ⟨_, _, _, _, _, rfl, _⟩ := h
    rfl
  · obtain ⟨D, A1, B, n, most, rfl, h7, dr, hn, k⟩ := h
    refine ⟨_, (pss_cons (ps_set (i := 2) sc_law_drawn_parts.nd rfl (.inl rfl) (pe_lst pa_nil))
      (pss_cons (ps_for PassesOwn.never rfl (pi_range1 rfl m_range (pa_cons (pe_own O_law_take (hr.mono (by decide)) (by rfl) (pa_cons (pv 0) (pa_cons (pe_op op_add (pv 1) pe_int) pa_nil))) pa_nil)) (pg_name (i := 3) sc_law_drawn_parts.nd rfl (.inl rfl))
          (pss_one (ps_if (PW.pt (pw_and (pt_cmpR op_eq (pe_own O_law_take (hr.mono (by decide)) (by rfl) (pa_cons (pv 0) (pa_cons pe_int pa_nil))) pe_int (nomark _)) (pw_and1 (PW.pt (pw_or (pt_cmpR (op_eqD hr.units) (pv 2) (pe_lst pa_nil) (nomark _)) (pw_or1 (pt_cmpR op_ne (pe_ix ix_tup (pe_ix ix_list (pv 2) (pe_un un_neg pe_int) (fun _ _ => rfl)) pe_int (fun _ _ => rfl)) pe_str (nomark _))))))))
                (pss_cons (ps_setLc (i := 4) (own := [("j", 7)]) (g := gName 7) (tt := tYes) (by rfl) sc_law_drawn_parts.nd rfl rfl (sw_true rfl rfl rfl (by decide +kernel)) (pi_range1 rfl m_range (pa_cons (pe_op op_add pe_int (pe_own O_law_take (hr.mono (by decide)) (by rfl) (pa_cons (pv 0) (pa_cons pe_int pa_nil)))) pa_nil)) (blkOk_by (own := [("j", 7)]) (N := ["draws", "most", "found", "k", "lines", "is_comment", "depth", "j"]) (sc := defScope s_law_drawn_parts) (by decide +kernel)) (fun _ _ _ _ _ => (pg_name (i := 7) sc_law_drawn_parts.nd rfl (.inl rfl))) (fun _ _ _ _ _ => pts_nil) (fun _ _ _ _ _ => (pe_own O_law_text_line (hr.mono (by decide)) (by rfl) (pa_cons (pv 0) pa_nil))))
                  (pss_one (ps_expr (pe_bm PySem.F.plainAttrs_list PySem.F.slot_list_append PySem.F.type_list_append mt_append (pv 2) (pa_cons (pe_tup (pa_cons pe_str (pa_cons (pe_op op_cat (pe_op op_rep (pe_lst (pa_cons (pe_own O_law_blank_line (hr.mono (by decide)) (by rfl) (pa_cons (pv 0) pa_nil)) pa_nil)) (pe_callTy call_int1 (by rfl) m_int (by decide +kernel) (pa_cons (pe_cmpR (op_neD hr.units) (pv 2) (pe_lst pa_nil) (nomark _)) pa_nil))) (pv 4)) pa_nil))) pa_nil)))))
                (pss_cons (ps_set (i := 5) sc_law_drawn_parts.nd rfl (.inl rfl) (pe_cmpR op_eq (pe_own O_law_take (hr.mono (by decide)) (by rfl) (pa_cons (pv 0) (pa_cons pe_int pa_nil))) pe_int (nomark _)))
                  (pss_cons (ps_par (i := 4) (j := 6) (by rfl) sc_law_drawn_parts.nd rfl rfl (by decide) rfl rfl (pa_cons (pe_own O_law_source_lines (hr.mono (by decide)) (by rfl) (pa_cons (pv 0) (pa_cons (pv 5) pa_nil))) (pa_cons (pe_own O_law_pick (hr.mono (by decide)) (by rfl) (pa_cons (pv 0) (pa_cons (pe_lst (pa_cons pe_int (pa_cons pe_int (pa_cons pe_int (pa_cons pe_int (pa_cons pe_int pa_nil)))))) pa_nil))) pa_nil)) (by rfl))
                  (pss_one (ps_expr (pe_bm PySem.F.plainAttrs_list PySem.F.slot_list_append PySem.F.type_list_append mt_append (pv 2) (pa_cons (pe_tup (pa_cons (pe_ix ix_list (pe_lst (pa_cons pe_str (pa_cons pe_str pa_nil))) (pe_callTy call_int1 (by rfl) m_int (by decide +kernel) (pa_cons (pv 5) pa_nil)) (fun _ _ => rfl)) (pa_cons (pv 6) (pa_cons (pv 4) (pa_cons (pe_own O_law_want_lines (hr.mono (by decide)) (by rfl) (pa_cons (pv 0) pa_nil)) pa_nil))))) pa_nil)))))))))
      (pss_one (ps_ret (pv 2))))), ?_⟩
    refine ⟨by show 0 ≤ sizeLine; decide, fun F nF => ?_⟩
    have FD := fresh_ne dr nF
    have FB : F ≠ B := by
      obtain ⟨_, _, ⟨_, eB⟩⟩ := dr.tracked
      exact (ne_of_none eB nF).symm
    have sF := same_new (o := .lst []) nF
    have dF := dr.same sF
    have eF : (upd H F (.lst [])) F = some (.lst (([] : List Addr).map V.ref)) := upd_same
    generalize upd H F (.lst []) = H1 at sF dF eF ⊢
    refine ⟨.ref D, rfl, .int (most : Int), rfl, _, _, rfl, rfl, D, A1, B, n, _, rfl, dF, by omega, by omega, by omega, fun r H2 r0 r1 d2 k2 => ?_⟩
    have eF2 := k2 _ _ eF FD.1 FD.2
    have k02 : Kept D A1 H H2 := k2.fresh sF
    refine ⟨r, rfl, by omega, by omega, for_range (lo := 0) (n := r.toNat) (fun i σ H3 => ∃ (ps : List NP) (ts : List Addr) (m : Int) (v3 v4 v5 v6 : Option V), σ = [some (.ref D), some (.int (most : Int)), some (.ref F), v3, v4, v5, v6, none] ∧ H3 F = some (.lst (ts.map V.ref)) ∧ PtsAt [D, A1, B, F] H3 ts ps ∧ DrawnOk ps ∧ ps.length = i ∧ Drw H3 D A1 B m ∧ m ≤ n + 1 + 20 * i ∧ Kept D A1 H H3) ⟨[], [], n + 1, none, none, none, none, rfl, eF2, trivial, ⟨trivial, nofun, by decide⟩, rfl, d2, by omega, k02⟩ ?_ ?_⟩
    · rintro i σ H3 hi ⟨ps, ts, m, v3, v4, v5, v6, rfl, eF3, hpt, hdo, hpl, d3, hm, k3⟩
      have fin : ∀ (q : NP) (t : Addr) (m' : Int) (H' : Hp) (v3 v4 v5 v6 : Option V), q.Ok → q.Sz ∧ q.Nice → (∀ p, ps.getLast? = some p → q.First ∧ (p.isTxt = true → q.isTxt = false)) → PtAt [D, A1, B, F] H' t q → KeepT [D, A1, B, F] H3 H' → Drw H' D A1 B m' → m' ≤ n + 1 + 20 * (i + 1) → Kept D A1 H3 H' → H' F = some (.lst (ts.map V.ref)) →
          ∃ (xs : List V), H' F = some (.lst xs) ∧ xs.length < sizeLine ∧ ∃ (ps : List NP) (ts : List Addr) (m : Int) (v3' v4' v5' v6' : Option V), [some (V.ref D), some (.int (most : Int)), some (.ref F), v3, v4, v5, v6, none] = [some (.ref D), some (.int (most : Int)), some (.ref F), v3', v4', v5', v6', none] ∧ (upd H' F (.lst (xs ++ [.ref t]))) F = some (.lst (ts.map V.ref)) ∧ PtsAt [D, A1, B, F] (upd H' F (.lst (xs ++ [.ref t]))) ts ps ∧ DrawnOk ps ∧ ps.length = i + 1 ∧ Drw (upd H' F (.lst (xs ++ [.ref t]))) D A1 B m ∧ m ≤ n + 1 + 20 * (i + 1 : Nat) ∧ Kept D A1 H (upd H' F (.lst (xs ++ [.ref t]))) := fun q t m' H' v3 v4 v5 v6 hq hz hl hp kt d' hm' k' eF' => by
        have lt := hpt.len
        have kU : KeepT [D, A1, B, F] H' (upd H' F (.lst (ts.map V.ref ++ [.ref t]))) := KeepT.upd eF' (by simp)
        refine ⟨_, eF', ?_, ps ++ [q], ts ++ [t], m', v3, v4, v5, v6, rfl, ?_, PtsAt.snoc (hp.keep kU) ((hpt.keep kt).keep kU), ⟨SeqOk.snoc hdo.1 hq hl, fun p hp' => ?_, ?_⟩, ?_, d'.upd FD.1 FD.2 FB, by push_cast; omega, fun b o e n1 n2 => ?_⟩
        · rw [List.length_map, lt]
          exact Nat.lt_of_le_of_lt (show ps.length ≤ 10 by omega) (by decide)
        · rw [upd_same, List.map_append]
          rfl
        · rcases List.mem_append.mp hp' with h | h
          · exact hdo.2.1 p h
          · rw [List.mem_singleton.mp h]
            exact hz
        · rw [List.length_append]
          show ps.length + 1 ≤ 7
          omega
        · rw [List.length_append, hpl]
          rfl
        · rw [upd_ne (ne_of_none e nF)]
          exact (k3.trans k') b o e n1 n2
      refine ⟨.ref D, rfl, D, A1, B, m, 3, rfl, d3, by omega, by decide, by decide, fun u H4 u0 u1 d4 k4 => ⟨rfl, _, rfl, ?_⟩⟩
      have eF4 := k4 _ _ eF3 FD.1 FD.2
      have kt4 : KeepT [D, A1, B, F] H3 H4 := KeepT.kept d3 k4 (by simp) (by simp)
      have hds := dp_pts (K := K) (hpt.keep kt4) (fun p h => (hdo.2.1 p h).1)
      refine ite2 (fun _ => ?_) (fun _ => ?_)
      · obtain ⟨ds, p1, p2, p3, p4⟩ := hds
        refine ⟨.ref F, rfl, by show 0 ≤ sizeLine; decide, fun Z nZ => ?_⟩
        have sZ := same_new (o := .lst []) nZ
        obtain ⟨es, q1, q2, q3, q4⟩ := dp_pts (K := K) ((hpt.keep kt4).keep (KeepT.of sZ)) (fun p h => (hdo.2.1 p h).1)
        refine ⟨_, _, .lst (SqL.of (sZ _ _ eF4)) q1, .lst (SqL.of upd_same) .nil, shaped_list q3 (by omega), shaped_list rfl (by decide), _, rfl, ?_⟩
        rw [eqv_nilD]
        have d5 := d4.same sZ
        have eF5 := sZ _ _ eF4
        have kt5 : KeepT [D, A1, B, F] H3 (upd H4 Z (.lst [])) := kt4.trans (KeepT.of sZ)
        have k5 : Kept D A1 H3 (upd H4 Z (.lst [])) := k4.trans (Kept.of sZ)
        generalize upd H4 Z (.lst []) = H5 at sZ d5 eF5 kt5 k5 ⊢
        clear d4 eF4 kt4 k4 sZ nZ p1 p3 p4 q1 q3 q4 p2
        rcases nil_or_snoc ps with e0 | ⟨ps', q0, e0⟩
        · have hemp : es.isEmpty = true := by
            rw [e0] at q2
            rw [List.isEmpty_iff, ← List.length_eq_zero_iff, q2]
            rfl
          rw [hemp]
          have hlast : ∀ (q : NP), q.isTxt = true → (ps ≠ [] → q.First) → ∀ p, ps.getLast? = some p → q.First ∧ (p.isTxt = true → q.isTxt = false) := fun q _ _ p hp => by
            rw [e0] at hp
            cases hp
          have hne : ps = [] ∨ ps ≠ [] := .inl e0
          refine iteT (iteT ?_)
          refine ⟨.ref D, rfl, D, A1, B, m + 1, 3, rfl, d5, by omega, by decide, by decide, fun u2 H6 v0 v1 d6 k6 => ⟨1, u2, rfl, rfl, 1 + u2, rfl, by omega, by omega, fun C nC => ?_⟩⟩
          have CD := fresh_ne d6 nC
          have CB : C ≠ B := by
            obtain ⟨_, _, ⟨_, eB⟩⟩ := d6.tracked
            exact (ne_of_none eB nC).symm
          have eF6 := k6 _ _ eF5 FD.1 FD.2
          have CF : C ≠ F := (ne_of_none eF6 nC).symm
          have kt6 : KeepT [D, A1, B, F] H3 H6 := kt5.trans (KeepT.kept d5 k6 (by simp) (by simp))
          have k36 : Kept D A1 H3 H6 := k5.trans k6
          refine lc_range (lo := 0) (n := (1 + u2).toNat) (fun j H7 => ∃ (ls : List (List Nat)) (m2 : Int), H7 C = some (rowsV ls) ∧ ls.length = j ∧ (∀ l ∈ ls, tOk l = true) ∧ Drw H7 D A1 B m2 ∧ m2 ≤ m + 2 + 3 * j ∧ Kept D A1 H6 H7) ⟨[], m + 2, upd_same, rfl, nofun, by rw [show m + 2 = m + 1 + 1 by omega]; exact d6.new nC, by omega, Kept.of (same_new nC)⟩ ?_ ?_
          · rintro j H7 hj ⟨ls, m2, eC, hl, hls, d7, hm2, k7⟩
            refine ⟨rfl, ?_⟩
            unfold tYes
            show ite (true = true) _ _
            rw [if_pos rfl]
            refine ⟨.ref D, rfl, D, A1, B, m2, rfl, d7, by omega, fun l m3 H8 hl8 d8 hm3 k8 => ?_⟩
            have e8 := k8 _ _ eC CD.1 CD.2
            refine ⟨_, e8, ?_, ls ++ [l], m3, ?_, by rw [List.length_append, hl]; rfl, fun l' hl' => ?_, d8.upd CD.1 CD.2 CB, by push_cast; omega, fun b o e n1 n2 => ?_⟩
            · rw [rowsV_len]
              exact Nat.lt_of_le_of_lt (show ls.length ≤ 10 by omega) (by decide)
            · rw [upd_same]
              exact congrArg some (rowsV_snoc ls (mk l))
            · rcases List.mem_append.mp hl' with h | h
              · exact hls l' h
              · rw [List.mem_singleton.mp h]
                exact hl8
            · rw [upd_ne (ne_of_none e nC)]
              exact (k7.trans k8) b o e n1 n2
          · rintro H7 ⟨ls, m2, eC, hl, hls, d7, hm2, k7⟩
            have hl3 : ls.length ≤ 3 := by omega
            have hl1 : ls ≠ [] := fun z => by
              rw [z] at hl
              have : (0 : Nat) = (1 + u2).toNat := hl
              omega
            have eF7 := k7 _ _ eF6 FD.1 FD.2
            refine ⟨.ref F, rfl, .inl ⟨rfl, _, SqL.of eF7⟩, .ref D, rfl, D, A1, B, m2, rfl, d7, by omega, fun l H8 hl8 hb8 d8 k8 => ⟨by show 1 ≤ sizeLine; decide, fun Y nY => ?_⟩⟩
            have sY := same_new (o := .lst [V.str (mk l)]) nY
            have eY : (upd H8 Y (.lst [V.str (mk l)])) Y = some (.lst [V.str (mk l)]) := upd_same
            have d9 := d8.same sY
            have eF9 := sY _ _ (k8 _ _ eF7 FD.1 FD.2)
            have eC9 := sY _ _ (k8 _ _ eC CD.1 CD.2)
            have kt9 : KeepT [D, A1, B, F] H3 (upd H8 Y (.lst [V.str (mk l)])) := ((kt6.trans (KeepT.kept d6 k7 (by simp) (by simp))).trans (KeepT.kept d7 k8 (by simp) (by simp))).trans (KeepT.of sY)
            have k39 : Kept D A1 H3 (upd H8 Y (.lst [V.str (mk l)])) := ((k36.trans k7).trans k8).trans (Kept.of sY)
            generalize upd H8 Y (.lst [V.str (mk l)]) = H9 at sY eY d9 eF9 eC9 kt9 k39 ⊢
            refine ⟨.ref F, rfl, by show 0 ≤ sizeLine; decide, fun Z nZ => ?_⟩
            have sZ := same_new (o := .lst []) nZ
            obtain ⟨fs, r1, r2, r3, r4⟩ := dp_pts (K := K) ((hpt.keep kt9).keep (KeepT.of sZ)) (fun p h => (hdo.2.1 p h).1)
            refine ⟨_, _, .lst (SqL.of (sZ _ _ eF9)) r1, .lst (SqL.of upd_same) .nil, shaped_list r3 (by omega), shaped_list rfl (by decide), .inr ⟨_, rfl, ?_⟩⟩
            rw [eqv_nilD]
            obtain ⟨z, hz, hz1⟩ : ∃ z : Nat, (if (!fs.isEmpty) = true then (1 : Int) else 0) = (z : Int) ∧ ((z = 0 ∧ ps = []) ∨ (z = 1 ∧ ps ≠ [])) := by
              cases hfs : fs with
              | nil =>
                refine ⟨0, rfl, .inl ⟨rfl, ?_⟩⟩
                rw [hfs] at r2
                exact List.length_eq_zero_iff.mp r2.symm
              | cons a b =>
                refine ⟨1, rfl, .inr ⟨rfl, fun h0 => ?_⟩⟩
                rw [hfs, h0] at r2
                cases r2
            rw [hz]
            have dZ := d9.same sZ
            have eFZ := sZ _ _ eF9
            have eYZ := sZ _ _ eY
            have eCZ := sZ _ _ eC9
            have ktZ : KeepT [D, A1, B, F] H3 (upd H9 Z (.lst [])) := kt9.trans (KeepT.of sZ)
            have kZ : Kept D A1 H3 (upd H9 Z (.lst [])) := k39.trans (Kept.of sZ)
            generalize upd H9 Z (.lst []) = H10 at dZ eFZ eYZ eCZ ktZ kZ ⊢
            refine ⟨Y, (z : Int), [V.str (mk l)], rfl, rfl, eYZ, by omega, by omega, Nat.le_trans (show 1 * ((z : Int)).toNat ≤ 4 by omega) (by decide), fun R nR => ?_⟩
            have sR := same_new (o := .lst (List.replicate ((z : Int)).toNat [V.str (mk l)]).flatten) nR
            refine ⟨.ref C, rfl, R, C, _, _, rfl, rfl, upd_same, sR _ _ eCZ, ?_, fun T nT => ⟨by show 2 ≤ sizeLine; decide, fun T2 nT2 => ?_⟩⟩
            · rw [rowsV_len]
              rcases hz1 with ⟨rfl, _⟩ | ⟨rfl, _⟩
              · exact Nat.le_trans (show 0 + ls.length ≤ 10 by omega) (by decide)
              · exact Nat.le_trans (show 1 + ls.length ≤ 10 by omega) (by decide)
            have eq2 : (List.replicate ((z : Int)).toNat [V.str (mk l)]).flatten ++ (ls.map mk).map V.str = (((if ps = [] then [] else [l]) ++ ls).map mk).map V.str := by
              rcases hz1 with ⟨rfl, h0⟩ | ⟨rfl, h0⟩
              · rw [if_pos h0]
                rfl
              · rw [if_neg h0]
                rfl
            rw [eq2] at nT2 ⊢
            have sT := same_new (o := .lst ((((if ps = [] then [] else [l]) ++ ls).map mk).map V.str)) nT
            have sT2 := same_new (o := .tup [.str "text", .ref T]) nT2
            have nTZ : H10 T = none := sR.free nT
            have TD := fresh_ne dZ nTZ
            have TB : T ≠ B := by
              obtain ⟨_, _, ⟨_, eB⟩⟩ := dZ.tracked
              exact (ne_of_none eB nTZ).symm
            have TF : T ≠ F := (ne_of_none eFZ nTZ).symm
            have s11 := sR.trans (sT.trans sT2)
            have hq : ∀ l' ∈ (if ps = [] then [] else [l]) ++ ls, tOk l' = true := fun l' hl' => by
              rcases List.mem_append.mp hl' with h | h
              · by_cases h0 : ps = []
                · rw [if_pos h0] at h
                  cases h
                · rw [if_neg h0] at h
                  rw [List.mem_singleton.mp h]
                  exact hl8
              · exact hls l' h
            obtain ⟨xs, f1, f2, f3⟩ := fin (.txt ((if ps = [] then [] else [l]) ++ ls)) T2 (m2 + 1) _ (some (.int (0 + (i : Nat)))) (some (.ref C)) v5 v6 ⟨fun h => hl1 (List.append_eq_nil_iff.mp h).2, fun l' hl' => by
              have h := hq l' hl'
              unfold tOk at h
              rw [Bool.and_eq_true, Bool.and_eq_true, Bool.and_eq_true, Bool.not_eq_true'] at h
              exact h.2.2.1⟩ ⟨⟨by
                rw [List.length_append]
                by_cases h0 : ps = []
                · rw [if_pos h0]
                  show 0 + ls.length ≤ 4
                  omega
                · rw [if_neg h0]
                  show 1 + ls.length ≤ 4
                  omega, fun l' hl' => by
              have h := hq l' hl'
              unfold tOk at h
              rw [Bool.and_eq_true, Bool.and_eq_true, decide_eq_true_eq] at h
              exact ⟨h.1, h.2.1⟩⟩, fun l' hl' => by
              have h := hq l' hl'
              unfold tOk at h
              rw [Bool.and_eq_true, Bool.and_eq_true, Bool.and_eq_true] at h
              exact h.2.2.2⟩ (hlast _ rfl fun h => ⟨l, ls, by rw [if_neg h]; rfl, hb8⟩) ⟨T, upd_same, sT2 _ _ upd_same, by simp [TD.1, TD.2, TB, TF]⟩ (ktZ.trans (KeepT.of s11)) (dZ.same s11) (by omega) (kZ.trans (Kept.of s11)) (s11 _ _ eFZ)
            exact ⟨F, xs, _, rfl, rfl, f1, f2, f3⟩
        · have hemp : es.isEmpty = false := by
            rw [e0, List.length_append] at q2
            cases es with
            | nil => cases q2
            | cons _ _ => rfl
          rw [hemp]
          obtain ⟨ts', t0, et, ht0⟩ : ∃ ts' t0, ts = ts' ++ [t0] ∧ PtAt [D, A1, B, F] H5 t0 q0 := by
            have hl := hpt.len
            rcases nil_or_snoc ts with z | ⟨ts', t0, z⟩
            · rw [z, e0, List.length_append] at hl
              cases hl
            · refine ⟨ts', t0, z, ?_⟩
              have g1 : ts[ts'.length]? = some t0 := by
                rw [z]
                simp
              obtain ⟨p, g2, g3⟩ := (hpt.keep kt5).get g1
              have g4 : ts'.length = ps'.length := by
                rw [z, e0, List.length_append, List.length_append] at hl
                exact Nat.succ.inj hl
              rw [e0, g4] at g2
              simp at g2
              rw [g2]
              exact g3
          have hne : ps = [] ∨ ps ≠ [] := .inr (fun z => by rw [z] at e0; cases ps' <;> cases e0)
          have hlq : ps.getLast? = some q0 := by
            rw [e0]
            simp
          refine iteF ?_
          cases hq0 : q0 with
          | txt ls0 =>
            rw [hq0] at ht0
            obtain ⟨L0, g1, _, _⟩ := ht0
            refine ⟨.ref F, rfl, 1, rfl, F, _, -1, .ref t0, rfl, rfl, SqL.of eF5, by rw [et, List.map_append]; exact atI_last _ _, t0, _, 0, .str "text", rfl, rfl, SqT.of g1, rfl, rfl, _, rfl, ?_⟩
            have hk : (!decide (V.str "text" = V.str "text")) = false := by decide +kernel
            rw [hk]
            refine iteF ?_
            refine ⟨.ref D, rfl, D, A1, B, m + 1, 5, rfl, d5, by omega, by decide, by decide, fun u2 H6 v0 v1 d6 k6 => ⟨rfl, ?_⟩⟩
            generalize hc : decide (V.int u2 = V.int 0) = c
            refine ⟨.ref D, rfl, .bl c, rfl, D, A1, B, m + 1 + 1, c, rfl, d6, by omega, fun ls S m7 H7 hs eS nS d7 hm7 k7 => ?_⟩
            refine ⟨.ref D, rfl, by show 5 ≤ sizeLine; decide, fun L nL => ?_⟩
            generalize hH : upd H7 L _ = H8
            obtain ⟨sL, eL⟩ := laid hH nL
            have LD := fresh_ne d7 nL
            refine ⟨D, A1, B, L, m7, intsV [0, 0, 2, 4, 1], rfl, d7.same sL, by omega, .inl eL, LD.1, LD.2, by decide, by decide, fun i3 v H9 hv d9 k9 => ⟨_, _, rfl, ?_⟩⟩
            obtain ⟨j, hj, rfl⟩ := ints_of hv
            have j4 : j ≤ 4 := mem_le (by decide) hj
            have eF6 := k6 _ _ eF5 FD.1 FD.2
            have eF9 := k9 _ _ (sL _ _ (k7 _ _ eF6 FD.1 FD.2)) FD.1 FD.2
            have SD := fresh_ne d6 nS
            have SB : S ≠ B := by
              obtain ⟨_, _, ⟨_, eB⟩⟩ := d6.tracked
              exact (ne_of_none eB nS).symm
            have SF : S ≠ F := (ne_of_none eF6 nS).symm
            have eS9 := k9 _ _ (sL _ _ eS) SD.1 SD.2
            refine ⟨.ref F, rfl, .inl ⟨rfl, _, SqL.of eF9⟩, by show 2 ≤ sizeLine; decide, fun Y nY => ?_⟩
            have sY := same_new (o := .lst [.str "example", .str "comment"]) nY
            refine ⟨.bl c, rfl, .inr ⟨_, rfl, Y, _, (if c = true then 1 else 0), .str (kindS c), rfl, rfl, SqL.of upd_same, by cases c <;> rfl, .int (j : Int), rfl, .ref S, rfl, .ref D, rfl, D, A1, B, m7 + 1, rfl, d9.same sY, by omega, fun ws W m10 H10 hw eW nW d10 hm10 k10 => ⟨by show 4 ≤ sizeLine; decide, fun T2 nT2 => ?_⟩⟩⟩
            have sT2 := same_new (o := .tup [.str (kindS c), .int (j : Int), .ref S, .ref W]) nT2
            have eSY := sY _ _ eS9
            have nW9 : upd H9 Y (.lst [.str "example", .str "comment"]) W = none := nW
            have WD := fresh_ne (d9.same sY) nW9
            have WB : W ≠ B := by
              obtain ⟨_, _, ⟨_, eB⟩⟩ := (d9.same sY).tracked
              exact (ne_of_none eB nW9).symm
            have WF : W ≠ F := (ne_of_none (sY _ _ eF9) nW9).symm
            have kt6 : KeepT [D, A1, B, F] H3 H6 := kt5.trans (KeepT.kept d5 k6 (by simp) (by simp))
            have kt7 : KeepT [D, A1, B, F] H3 H7 := kt6.trans (KeepT.kept d6 k7 (by simp) (by simp))
            have kt9 : KeepT [D, A1, B, F] H3 H9 := (kt7.trans (KeepT.of sL)).trans (KeepT.kept (d7.same sL) k9 (by simp) (by simp))
            have kt10 : KeepT [D, A1, B, F] H3 H10 := (kt9.trans (KeepT.of sY)).trans (KeepT.kept (d9.same sY) k10 (by simp) (by simp))
            have k310 : Kept D A1 H3 H10 := ((((k5.trans k6).trans k7).trans (k9.fresh sL)).trans (k10.fresh sY))
            have eF10 := k10 _ _ (sY _ _ eF9) FD.1 FD.2
            have eS10 := k10 _ _ eSY SD.1 SD.2
            have hs1 : ∀ l ∈ ls, okc l = true ∧ l.length ≤ 20 ∧ plainS l := fun l hl => by
              have h := hs.ok l hl
              unfold sOk at h
              rw [Bool.and_eq_true, Bool.and_eq_true, Bool.and_eq_true, Bool.and_eq_true, decide_eq_true_eq, decide_eq_true_eq, decide_eq_true_eq] at h
              exact ⟨h.1, h.2.1, h.2.2.1, h.2.2.2.1⟩
            have hs2 : ∀ l ∈ ls, no8 (32 :: l) = true := fun l hl => by
              have h := hs.ok l hl
              unfold sOk at h
              rw [Bool.and_eq_true, Bool.and_eq_true, Bool.and_eq_true, Bool.and_eq_true] at h
              exact h.2.2.2.2
            have hw2 : ∀ l ∈ ws, lnice l = true := fun l hl => by
              have h := hw.ok l hl
              unfold wOk at h
              rw [Bool.and_eq_true, Bool.and_eq_true, Bool.and_eq_true, Bool.and_eq_true] at h
              exact h.2.2.2.2
            have hw1 : ∀ l ∈ ws, okc l = true ∧ l.length ≤ 60 ∧ isBlank l = false ∧ bg (mk l) ">>>" = false := fun l hl => by
              have h := hw.ok l hl
              unfold wOk at h
              rw [Bool.and_eq_true, Bool.and_eq_true, Bool.and_eq_true, Bool.and_eq_true, decide_eq_true_eq, Bool.not_eq_true', Bool.not_eq_true'] at h
              exact ⟨h.1, h.2.1, h.2.2.1, h.2.2.2.1⟩
            have efst : (ls.map fun l => (l, 32 :: l)).map (·.1) = ls := by
              rw [List.map_map]
              exact List.map_id _
            obtain ⟨xs, f1, f2, f3⟩ := fin (.ex c j (ls.map fun l => (l, 32 :: l)) ws) T2 m10 _ (some (.int (0 + (i : Nat)))) (some (.ref S)) (some (.bl c)) (some (.int (j : Int))) ⟨fun h => hs.ne (List.map_eq_nil_iff.mp h), fun p hp => by
              obtain ⟨l, hl, rfl⟩ := List.mem_map.mp hp
              exact ⟨.inl rfl, (hs1 l hl).2.2⟩, by rw [efst]; exact hs.rem, fun l hl => (hw1 l hl).2.2, hw.first⟩ ⟨⟨j4, by rw [List.length_map]; exact hs.few, fun p hp => by
              obtain ⟨l, hl, rfl⟩ := List.mem_map.mp hp
              exact ⟨(hs1 l hl).1, (hs1 l hl).2.1⟩, hw.few, fun l hl => ⟨(hw1 l hl).1, (hw1 l hl).2.1⟩⟩, fun p hp => by
              obtain ⟨l, hl, rfl⟩ := List.mem_map.mp hp
              exact hs2 l hl, hw2⟩ (fun p _ => ⟨trivial, fun _ => rfl⟩) ⟨S, W, upd_same, by rw [efst]; exact sT2 _ _ eS10, sT2 _ _ eW, by simp [SD.1, SD.2, SB, SF], by simp [WD.1, WD.2, WB, WF]⟩ (kt10.trans (KeepT.of sT2)) (d10.same sT2) (by omega) (k310.trans (Kept.of sT2)) (sT2 _ _ eF10)
            exact ⟨F, xs, _, rfl, rfl, f1, f2, f3⟩
          | ex c0 d0 ss0 ws0 =>
            rw [hq0] at ht0
            obtain ⟨S0, W0, g1, _⟩ := ht0
            have hlast : ∀ (q : NP), q.isTxt = true → (ps ≠ [] → q.First) → ∀ p, ps.getLast? = some p → q.First ∧ (p.isTxt = true → q.isTxt = false) := fun q _ hf p hp => by
              have hps : ps ≠ [] := fun z => by rw [z] at hlq; cases hlq
              rw [hlq, hq0] at hp
              cases hp
              exact ⟨hf hps, fun z => by cases z⟩
            refine ⟨.ref F, rfl, 1, rfl, F, _, -1, .ref t0, rfl, rfl, SqL.of eF5, by rw [et, List.map_append]; exact atI_last _ _, t0, _, 0, .str (kindS c0), rfl, rfl, SqT.of g1, rfl, rfl, _, rfl, ?_⟩
            have hk : (!decide (V.str (kindS c0) = V.str "text")) = true := by cases c0 <;> decide +kernel
            rw [hk]
            refine iteT ?_
            refine ⟨.ref D, rfl, D, A1, B, m + 1, 3, rfl, d5, by omega, by decide, by decide, fun u2 H6 v0 v1 d6 k6 => ⟨1, u2, rfl, rfl, 1 + u2, rfl, by omega, by omega, fun C nC => ?_⟩⟩
            have CD := fresh_ne d6 nC
            have CB : C ≠ B := by
              obtain ⟨_, _, ⟨_, eB⟩⟩ := d6.tracked
              exact (ne_of_none eB nC).symm
            have eF6 := k6 _ _ eF5 FD.1 FD.2
            have CF : C ≠ F := (ne_of_none eF6 nC).symm
            have kt6 : KeepT [D, A1, B, F] H3 H6 := kt5.trans (KeepT.kept d5 k6 (by simp) (by simp))
            have k36 : Kept D A1 H3 H6 := k5.trans k6
            refine lc_range (lo := 0) (n := (1 + u2).toNat) (fun j H7 => ∃ (ls : List (List Nat)) (m2 : Int), H7 C = some (rowsV ls) ∧ ls.length = j ∧ (∀ l ∈ ls, tOk l = true) ∧ Drw H7 D A1 B m2 ∧ m2 ≤ m + 2 + 3 * j ∧ Kept D A1 H6 H7) ⟨[], m + 2, upd_same, rfl, nofun, by rw [show m + 2 = m + 1 + 1 by omega]; exact d6.new nC, by omega, Kept.of (same_new nC)⟩ ?_ ?_
            · rintro j H7 hj ⟨ls, m2, eC, hl, hls, d7, hm2, k7⟩
              refine ⟨rfl, ?_⟩
              unfold tYes
              show ite (true = true) _ _
              rw [if_pos rfl]
              refine ⟨.ref D, rfl, D, A1, B, m2, rfl, d7, by omega, fun l m3 H8 hl8 d8 hm3 k8 => ?_⟩
              have e8 := k8 _ _ eC CD.1 CD.2
              refine ⟨_, e8, ?_, ls ++ [l], m3, ?_, by rw [List.length_append, hl]; rfl, fun l' hl' => ?_, d8.upd CD.1 CD.2 CB, by push_cast; omega, fun b o e n1 n2 => ?_⟩
              · rw [rowsV_len]
                exact Nat.lt_of_le_of_lt (show ls.length ≤ 10 by omega) (by decide)
              · rw [upd_same]
                exact congrArg some (rowsV_snoc ls (mk l))
              · rcases List.mem_append.mp hl' with h | h
                · exact hls l' h
                · rw [List.mem_singleton.mp h]
                  exact hl8
              · rw [upd_ne (ne_of_none e nC)]
                exact (k7.trans k8) b o e n1 n2
            · rintro H7 ⟨ls, m2, eC, hl, hls, d7, hm2, k7⟩
              have hl3 : ls.length ≤ 3 := by omega
              have hl1 : ls ≠ [] := fun z => by
                rw [z] at hl
                have : (0 : Nat) = (1 + u2).toNat := hl
                omega
              have eF7 := k7 _ _ eF6 FD.1 FD.2
              refine ⟨.ref F, rfl, .inl ⟨rfl, _, SqL.of eF7⟩, .ref D, rfl, D, A1, B, m2, rfl, d7, by omega, fun l H8 hl8 hb8 d8 k8 => ⟨by show 1 ≤ sizeLine; decide, fun Y nY => ?_⟩⟩
              have sY := same_new (o := .lst [V.str (mk l)]) nY
              have eY : (upd H8 Y (.lst [V.str (mk l)])) Y = some (.lst [V.str (mk l)]) := upd_same
              have d9 := d8.same sY
              have eF9 := sY _ _ (k8 _ _ eF7 FD.1 FD.2)
              have eC9 := sY _ _ (k8 _ _ eC CD.1 CD.2)
              have kt9 : KeepT [D, A1, B, F] H3 (upd H8 Y (.lst [V.str (mk l)])) := ((kt6.trans (KeepT.kept d6 k7 (by simp) (by simp))).trans (KeepT.kept d7 k8 (by simp) (by simp))).trans (KeepT.of sY)
              have k39 : Kept D A1 H3 (upd H8 Y (.lst [V.str (mk l)])) := ((k36.trans k7).trans k8).trans (Kept.of sY)
              generalize upd H8 Y (.lst [V.str (mk l)]) = H9 at sY eY d9 eF9 eC9 kt9 k39 ⊢
              refine ⟨.ref F, rfl, by show 0 ≤ sizeLine; decide, fun Z nZ => ?_⟩
              have sZ := same_new (o := .lst []) nZ
              obtain ⟨fs, r1, r2, r3, r4⟩ := dp_pts (K := K) ((hpt.keep kt9).keep (KeepT.of sZ)) (fun p h => (hdo.2.1 p h).1)
              refine ⟨_, _, .lst (SqL.of (sZ _ _ eF9)) r1, .lst (SqL.of upd_same) .nil, shaped_list r3 (by omega), shaped_list rfl (by decide), .inr ⟨_, rfl, ?_⟩⟩
              rw [eqv_nilD]
              obtain ⟨z, hz, hz1⟩ : ∃ z : Nat, (if (!fs.isEmpty) = true then (1 : Int) else 0) = (z : Int) ∧ ((z = 0 ∧ ps = []) ∨ (z = 1 ∧ ps ≠ [])) := by
                cases hfs : fs with
                | nil =>
                  refine ⟨0, rfl, .inl ⟨rfl, ?_⟩⟩
                  rw [hfs] at r2
                  exact List.length_eq_zero_iff.mp r2.symm
                | cons a b =>
                  refine ⟨1, rfl, .inr ⟨rfl, fun h0 => ?_⟩⟩
                  rw [hfs, h0] at r2
                  cases r2
              rw [hz]
              have dZ := d9.same sZ
              have eFZ := sZ _ _ eF9
              have eYZ := sZ _ _ eY
              have eCZ := sZ _ _ eC9
              have ktZ : KeepT [D, A1, B, F] H3 (upd H9 Z (.lst [])) := kt9.trans (KeepT.of sZ)
              have kZ : Kept D A1 H3 (upd H9 Z (.lst [])) := k39.trans (Kept.of sZ)
              generalize upd H9 Z (.lst []) = H10 at dZ eFZ eYZ eCZ ktZ kZ ⊢
              refine ⟨Y, (z : Int), [V.str (mk l)], rfl, rfl, eYZ, by omega, by omega, Nat.le_trans (show 1 * ((z : Int)).toNat ≤ 4 by omega) (by decide), fun R nR => ?_⟩
              have sR := same_new (o := .lst (List.replicate ((z : Int)).toNat [V.str (mk l)]).flatten) nR
              refine ⟨.ref C, rfl, R, C, _, _, rfl, rfl, upd_same, sR _ _ eCZ, ?_, fun T nT => ⟨by show 2 ≤ sizeLine; decide, fun T2 nT2 => ?_⟩⟩
              · rw [rowsV_len]
                rcases hz1 with ⟨rfl, _⟩ | ⟨rfl, _⟩
                · exact Nat.le_trans (show 0 + ls.length ≤ 10 by omega) (by decide)
                · exact Nat.le_trans (show 1 + ls.length ≤ 10 by omega) (by decide)
              have eq2 : (List.replicate ((z : Int)).toNat [V.str (mk l)]).flatten ++ (ls.map mk).map V.str = (((if ps = [] then [] else [l]) ++ ls).map mk).map V.str := by
                rcases hz1 with ⟨rfl, h0⟩ | ⟨rfl, h0⟩
                · rw [if_pos h0]
                  rfl
                · rw [if_neg h0]
                  rfl
              rw [eq2] at nT2 ⊢
              have sT := same_new (o := .lst ((((if ps = [] then [] else [l]) ++ ls).map mk).map V.str)) nT
              have sT2 := same_new (o := .tup [.str "text", .ref T]) nT2
              have nTZ : H10 T = none := sR.free nT
              have TD := fresh_ne dZ nTZ
              have TB : T ≠ B := by
                obtain ⟨_, _, ⟨_, eB⟩⟩ := dZ.tracked
                exact (ne_of_none eB nTZ).symm
              have TF : T ≠ F := (ne_of_none eFZ nTZ).symm
              have s11 := sR.trans (sT.trans sT2)
              have hq : ∀ l' ∈ (if ps = [] then [] else [l]) ++ ls, tOk l' = true := fun l' hl' => by
                rcases List.mem_append.mp hl' with h | h
                · by_cases h0 : ps = []
                  · rw [if_pos h0] at h
                    cases h
                  · rw [if_neg h0] at h
                    rw [List.mem_singleton.mp h]
                    exact hl8
                · exact hls l' h
              obtain ⟨xs, f1, f2, f3⟩ := fin (.txt ((if ps = [] then [] else [l]) ++ ls)) T2 (m2 + 1) _ (some (.int (0 + (i : Nat)))) (some (.ref C)) v5 v6 ⟨fun h => hl1 (List.append_eq_nil_iff.mp h).2, fun l' hl' => by
                have h := hq l' hl'
                unfold tOk at h
                rw [Bool.and_eq_true, Bool.and_eq_true, Bool.and_eq_true, Bool.not_eq_true'] at h
                exact h.2.2.1⟩ ⟨⟨by
                  rw [List.length_append]
                  by_cases h0 : ps = []
                  · rw [if_pos h0]
                    show 0 + ls.length ≤ 4
                    omega
                  · rw [if_neg h0]
                    show 1 + ls.length ≤ 4
                    omega, fun l' hl' => by
                have h := hq l' hl'
                unfold tOk at h
                rw [Bool.and_eq_true, Bool.and_eq_true, decide_eq_true_eq] at h
                exact ⟨h.1, h.2.1⟩⟩, fun l' hl' => by
                have h := hq l' hl'
                unfold tOk at h
                rw [Bool.and_eq_true, Bool.and_eq_true, Bool.and_eq_true] at h
                exact h.2.2.2⟩ (hlast _ rfl fun h => ⟨l, ls, by rw [if_neg h]; rfl, hb8⟩) ⟨T, upd_same, sT2 _ _ upd_same, by simp [TD.1, TD.2, TB, TF]⟩ (ktZ.trans (KeepT.of s11)) (dZ.same s11) (by omega) (kZ.trans (Kept.of s11)) (s11 _ _ eFZ)
              exact ⟨F, xs, _, rfl, rfl, f1, f2, f3⟩
      · have d5 := d4
        have eF5 := eF4
        have kt5 := kt4
        have k5 := k4
        generalize H4 = H5 at d5 eF5 kt5 k5 ⊢
        refine ⟨.ref D, rfl, D, A1, B, m + 1, 5, rfl, d5, by omega, by decide, by decide, fun u2 H6 v0 v1 d6 k6 => ⟨rfl, ?_⟩⟩
        generalize hc : decide (V.int u2 = V.int 0) = c
        refine ⟨.ref D, rfl, .bl c, rfl, D, A1, B, m + 1 + 1, c, rfl, d6, by omega, fun ls S m7 H7 hs eS nS d7 hm7 k7 => ?_⟩
        refine ⟨.ref D, rfl, by show 5 ≤ sizeLine; decide, fun L nL => ?_⟩
        generalize hH : upd H7 L _ = H8
        obtain ⟨sL, eL⟩ := laid hH nL
        have LD := fresh_ne d7 nL
        refine ⟨D, A1, B, L, m7, intsV [0, 0, 2, 4, 1], rfl, d7.same sL, by omega, .inl eL, LD.1, LD.2, by decide, by decide, fun i3 v H9 hv d9 k9 => ⟨_, _, rfl, ?_⟩⟩
        obtain ⟨j, hj, rfl⟩ := ints_of hv
        have j4 : j ≤ 4 := mem_le (by decide) hj
        have eF6 := k6 _ _ eF5 FD.1 FD.2
        have eF9 := k9 _ _ (sL _ _ (k7 _ _ eF6 FD.1 FD.2)) FD.1 FD.2
        have SD := fresh_ne d6 nS
        have SB : S ≠ B := by
          obtain ⟨_, _, ⟨_, eB⟩⟩ := d6.tracked
          exact (ne_of_none eB nS).symm
        have SF : S ≠ F := (ne_of_none eF6 nS).symm
        have eS9 := k9 _ _ (sL _ _ eS) SD.1 SD.2
        refine ⟨.ref F, rfl, .inl ⟨rfl, _, SqL.of eF9⟩, by show 2 ≤ sizeLine; decide, fun Y nY => ?_⟩
        have sY := same_new (o := .lst [.str "example", .str "comment"]) nY
        refine ⟨.bl c, rfl, .inr ⟨_, rfl, Y, _, (if c = true then 1 else 0), .str (kindS c), rfl, rfl, SqL.of upd_same, by cases c <;> rfl, .int (j : Int), rfl, .ref S, rfl, .ref D, rfl, D, A1, B, m7 + 1, rfl, d9.same sY, by omega, fun ws W m10 H10 hw eW nW d10 hm10 k10 => ⟨by show 4 ≤ sizeLine; decide, fun T2 nT2 => ?_⟩⟩⟩
        have sT2 := same_new (o := .tup [.str (kindS c), .int (j : Int), .ref S, .ref W]) nT2
        have eSY := sY _ _ eS9
        have nW9 : upd H9 Y (.lst [.str "example", .str "comment"]) W = none := nW
        have WD := fresh_ne (d9.same sY) nW9
        have WB : W ≠ B := by
          obtain ⟨_, _, ⟨_, eB⟩⟩ := (d9.same sY).tracked
          exact (ne_of_none eB nW9).symm
        have WF : W ≠ F := (ne_of_none (sY _ _ eF9) nW9).symm
        have kt6 : KeepT [D, A1, B, F] H3 H6 := kt5.trans (KeepT.kept d5 k6 (by simp) (by simp))
        have kt7 : KeepT [D, A1, B, F] H3 H7 := kt6.trans (KeepT.kept d6 k7 (by simp) (by simp))
        have kt9 : KeepT [D, A1, B, F] H3 H9 := (kt7.trans (KeepT.of sL)).trans (KeepT.kept (d7.same sL) k9 (by simp) (by simp))
        have kt10 : KeepT [D, A1, B, F] H3 H10 := (kt9.trans (KeepT.of sY)).trans (KeepT.kept (d9.same sY) k10 (by simp) (by simp))
        have k310 : Kept D A1 H3 H10 := ((((k5.trans k6).trans k7).trans (k9.fresh sL)).trans (k10.fresh sY))
        have eF10 := k10 _ _ (sY _ _ eF9) FD.1 FD.2
        have eS10 := k10 _ _ eSY SD.1 SD.2
        have hs1 : ∀ l ∈ ls, okc l = true ∧ l.length ≤ 20 ∧ plainS l := fun l hl => by
          have h := hs.ok l hl
          unfold sOk at h
          rw [Bool.and_eq_true, Bool.and_eq_true, Bool.and_eq_true, Bool.and_eq_true, decide_eq_true_eq, decide_eq_true_eq, decide_eq_true_eq] at h
          exact ⟨h.1, h.2.1, h.2.2.1, h.2.2.2.1⟩
        have hs2 : ∀ l ∈ ls, no8 (32 :: l) = true := fun l hl => by
          have h := hs.ok l hl
          unfold sOk at h
          rw [Bool.and_eq_true, Bool.and_eq_true, Bool.and_eq_true, Bool.and_eq_true] at h
          exact h.2.2.2.2
        have hw2 : ∀ l ∈ ws, lnice l = true := fun l hl => by
          have h := hw.ok l hl
          unfold wOk at h
          rw [Bool.and_eq_true, Bool.and_eq_true, Bool.and_eq_true, Bool.and_eq_true] at h
          exact h.2.2.2.2
        have hw1 : ∀ l ∈ ws, okc l = true ∧ l.length ≤ 60 ∧ isBlank l = false ∧ bg (mk l) ">>>" = false := fun l hl => by
          have h := hw.ok l hl
          unfold wOk at h
          rw [Bool.and_eq_true, Bool.and_eq_true, Bool.and_eq_true, Bool.and_eq_true, decide_eq_true_eq, Bool.not_eq_true', Bool.not_eq_true'] at h
          exact ⟨h.1, h.2.1, h.2.2.1, h.2.2.2.1⟩
        have efst : (ls.map fun l => (l, 32 :: l)).map (·.1) = ls := by
          rw [List.map_map]
          exact List.map_id _
        obtain ⟨xs, f1, f2, f3⟩ := fin (.ex c j (ls.map fun l => (l, 32 :: l)) ws) T2 m10 _ (some (.int (0 + (i : Nat)))) (some (.ref S)) (some (.bl c)) (some (.int (j : Int))) ⟨fun h => hs.ne (List.map_eq_nil_iff.mp h), fun p hp => by
          obtain ⟨l, hl, rfl⟩ := List.mem_map.mp hp
          exact ⟨.inl rfl, (hs1 l hl).2.2⟩, by rw [efst]; exact hs.rem, fun l hl => (hw1 l hl).2.2, hw.first⟩ ⟨⟨j4, by rw [List.length_map]; exact hs.few, fun p hp => by
          obtain ⟨l, hl, rfl⟩ := List.mem_map.mp hp
          exact ⟨(hs1 l hl).1, (hs1 l hl).2.1⟩, hw.few, fun l hl => ⟨(hw1 l hl).1, (hw1 l hl).2.1⟩⟩, fun p hp => by
          obtain ⟨l, hl, rfl⟩ := List.mem_map.mp hp
          exact hs2 l hl, hw2⟩ (fun p _ => ⟨trivial, fun _ => rfl⟩) ⟨S, W, upd_same, by rw [efst]; exact sT2 _ _ eS10, sT2 _ _ eW, by simp [SD.1, SD.2, SB, SF], by simp [WD.1, WD.2, WB, WF]⟩ (kt10.trans (KeepT.of sT2)) (d10.same sT2) (by omega) (k310.trans (Kept.of sT2)) (sT2 _ _ eF10)
        exact ⟨F, xs, _, rfl, rfl, f1, f2, f3⟩
    · rintro σ H3 ⟨ps, ts, m, v3, v4, v5, v6, rfl, eF3, hpt, hdo, hpl, d3, hm, k3⟩
      exact ⟨.ref F, rfl, k ps ts F m H3 hdo (hpt.weak (by simp)) eF3 nF d3 (by omega) k3⟩
end

/-! ### the lines of a part -/
theorem for_enum {K : PySem.W.Frag} {a : Addr} {xs : List V} {g : TG} {tb : TS} {D : Ends} {σ : L2.St} {H : Hp} (Pv : Nat → L2.St → Hp → Prop) (h0 : Pv 0 σ H) (hl : ∀ i σ H, i ≤ xs.length → Pv i σ H → SqL K H a xs)
    (hs : ∀ i x T σ H, xs[i]? = some x → Pv i σ H → H T = none → g (.ref T) σ (upd H T (.tup [.int (i : Nat), x])) fun σ2 H2 => tb { D with nx := Pv (i + 1), ct := Pv (i + 1), bk := D.nx } σ2 H2) (hd : ∀ σ H, Pv xs.length σ H → D.nx σ H) :
    ∃ W : Nat → Nat → L2.St → Hp → Prop, (∃ m, W 0 m σ H) ∧ ∀ i m σ H, W i m σ H →
      ((Ite K a).stop i H ∧ D.nx σ H) ∨ ((Ite K a).go i H ∧ ∃ N : L2.St → Hp → Prop, (∀ σ' H', N σ' H' → ∃ m', m' < m ∧ W (i + 1) m' σ' H') ∧ ∀ x H', (Ite K a).yld i H x H' → g x σ H' fun σ2 H2 => tb { D with nx := N, ct := N, bk := D.nx } σ2 H2) := by
  refine ⟨fun i m σ H => m = xs.length - i ∧ i ≤ xs.length ∧ Pv i σ H, ⟨xs.length, by simp, Nat.zero_le _, h0⟩, ?_⟩
  rintro i m σ H ⟨rfl, hi, p⟩
  have q := hl i σ H hi p
  by_cases hlt : i < xs.length
  · refine .inr ⟨⟨xs, xs[i], q, by simp [hlt]⟩, Pv (i + 1), fun σ' H' p' => ⟨xs.length - (i + 1), by omega, rfl, hlt, p'⟩, fun v H' y => ?_⟩
    obtain ⟨T, x, rfl, hT, rfl, hx⟩ := y
    exact hs i x T σ _ (hx xs q) p hT
  · have e : i = xs.length := by omega
    subst e
    exact .inl ⟨⟨xs, q, Nat.le_refl _⟩, hd σ H p⟩
def NP.sim : NP → NP → Prop
  | .txt a, .txt b => a = b
  | .ex c d ss ws, .ex c' d' ss' ws' => c = c' ∧ d = d' ∧ ss.map (·.1) = ss'.map (·.1) ∧ ws = ws'
  | _, _ => False
theorem srows_snoc (D : Nat) (p : List Nat × List Nat) : ∀ ss : List (List Nat × List Nat), srows D (ss ++ [p]) = srows D ss ++ [srow D (if ss.length = 0 then P3 else D3) p.2]
  | [] => rfl
  | q :: r => by
    show srow D P3 q.2 :: (r ++ [p]).map (fun q => srow D D3 q.2) = srow D P3 q.2 :: (r.map (fun q => srow D D3 q.2)) ++ [srow D (if (q :: r).length = 0 then P3 else D3) p.2]
    rw [List.map_append, if_neg (by simp)]
    rfl
theorem tr_len (l : List Nat) {b : Nat} (h : szL b l) : l.length ≤ b := h.2
section
variable {P : Program} {w : World} {K : PySem.W.Frag} {mg : Str → Option Value} {base : Heap}
def sp_law_part_lines : Sp := fun vs H Q _ => ∃ (D A B t : Addr) (n : Int) (p : NP), vs = [.ref D, .ref t] ∧ Drw H D A B n ∧ n < 700000 ∧ PtAt [D, A, B] H t p ∧ p.Sz ∧ p.Ok ∧
  ∀ (p' : NP) (r : Addr) (m : Int) (H' : Hp), p.sim p' → p'.Ok → H' r = some (rowsV p'.rows) → r ∉ [D, A, B] → Drw H' D A B m → m ≤ n + 3 → Kept D A H H' → Q (.ref r) H'
theorem ok_law_part_lines {f : Addr} {fd : FuncData} {dvs : List V} (F : Fn K "_law_part_lines" s_law_part_lines dvs f fd) (O_law_take : Own P w K mg base "_law_take" 2 ["draws", "size"] [] (sp_law_take)) (m_enumerate : mg "enumerate" = none) (m_int : mg "int" = none) : FnOk P w K mg base CX0 3 f fd ["draws", "part"] (sp_law_part_lines) := by
  refine Fn.okN F sc_law_part_lines (fun vs H Q E h => ?_) (fun cdv A outer s H vs Q E hr h => ?_)
  · obtain ⟨_, _, _, _, _, _, rfl, _⟩ := h
    rfl
  · obtain ⟨D, A1, B, t, n, p, rfl, dr, hn, hp, hz, ho, k⟩ := h
    refine ⟨_, (pss_cons (ps_if (pt_cmpR op_eq (pe_ix ix_tup (pv 1) pe_int (fun _ _ => rfl)) pe_str (nomark _))
          (pss_one (ps_ret (pe_ix ix_tup (pv 1) pe_int (fun _ _ => rfl))))
          pss_nil)
      (pss_cons (ps_asg (pe_tup (pa_cons (pe_op op_repS pe_str (pe_ix ix_tup (pv 1) pe_int (fun _ _ => rfl))) (pa_cons (pe_lst pa_nil) pa_nil))) (pg_tup rfl (pgs_cons (pg_name (i := 2) sc_law_part_lines.nd rfl (.inr rfl)) (pgs_cons (pg_name (i := 3) sc_law_part_lines.nd rfl (.inl rfl)) pgs_nil))))
      (pss_cons (ps_for PassesOwn.never rfl (pi_enum (by rfl) m_enumerate (pa_cons (pe_ix ix_tup (pv 1) pe_int (fun _ _ => rfl)) pa_nil)) (pg_tup rfl (pgs_cons (pg_name (i := 4) sc_law_part_lines.nd rfl (.inl rfl)) (pgs_cons (pg_name (i := 5) sc_law_part_lines.nd rfl (.inl rfl)) pgs_nil)))
          (pss_cons (ps_set (i := 6) sc_law_part_lines.nd rfl (.inl rfl) (pe_ifExp (pt_cmpR op_ne (pv 5) pe_str (nomark _)) (pe_op op_add_str pe_str (pv 5)) (pe_op op_repS pe_str (pe_own O_law_take (hr.mono (by decide)) (by rfl) (pa_cons (pv 0) (pa_cons pe_int pa_nil))))))
            (pss_one (ps_expr (pe_bm PySem.F.plainAttrs_list PySem.F.slot_list_append PySem.F.type_list_append mt_append (pv 3) (pa_cons (pe_op op_add_str (pe_op op_add_str (pv 2) (pe_ix ix_list (pe_lst (pa_cons pe_str (pa_cons pe_str pa_nil))) (pe_callTy call_int1 (by rfl) m_int (by decide +kernel) (pa_cons (pe_cmpR op_gt (pv 4) pe_int (nomark _)) pa_nil)) (fun _ _ => rfl))) (pv 6)) pa_nil))))))
      (pss_one (ps_ret (pe_op op_cat (pv 3) (pe_lc (own := [("each", 5)]) (g := gName 5) (tt := tYes) (by rfl) sc_law_part_lines.nd (pi_list (pe_ix ix_tup (pv 1) pe_int (fun _ _ => rfl))) (blkOk_by (own := [("each", 5)]) (N := ["draws", "part", "ahead", "found", "at", "each", "behind"]) (sc := defScope s_law_part_lines) (by decide +kernel)) (fun _ _ _ _ _ => (pg_name (i := 5) sc_law_part_lines.nd rfl (.inl rfl))) (fun _ _ _ _ _ => pts_nil) (fun _ _ _ _ _ => (pe_op op_add_str (pv 2) (pv 5)))))))))), ?_⟩
    cases p with
    | txt ls =>
      obtain ⟨L, e1, e2, nL⟩ := hp
      refine ⟨.ref t, rfl, t, _, 0, .str "text", rfl, rfl, SqT.of e1, rfl, rfl, _, rfl, ?_⟩
      rw [show decide (V.str "text" = V.str "text") = true from decide_eq_true rfl]
      exact iteT ⟨.ref t, rfl, t, _, 1, .ref L, rfl, rfl, SqT.of e1, rfl, k (.txt ls) L n H rfl ho e2 nL dr (by omega) Kept.refl⟩
    | ex c d ss ws =>
      obtain ⟨S, W, e1, e2, e3, nS, nW⟩ := hp
      obtain ⟨z1, z2, z3, z4, z5⟩ := hz
      refine ⟨.ref t, rfl, t, _, 0, .str (kindS c), rfl, rfl, SqT.of e1, rfl, rfl, _, rfl, ?_⟩
      rw [show decide (V.str (kindS c) = V.str "text") = false by cases c <;> decide +kernel]
      refine iteF ⟨.ref t, rfl, t, _, 1, .int (d : Int), rfl, rfl, SqT.of e1, rfl, " ", (d : Int), rfl, rfl, mulOk_sp (by omega), by show 0 ≤ sizeLine; decide, fun F nF => ?_⟩
      rw [mul_sps]
      have FD := fresh_ne dr nF
      have FB : F ≠ B := by
        obtain ⟨_, _, ⟨_, eB⟩⟩ := dr.tracked
        exact (ne_of_none eB nF).symm
      have sF := same_new (o := .lst []) nF
      have eF : (upd H F (.lst [])) F = some (rowsV []) := upd_same
      refine ⟨by show 2 ≤ sizeLine; decide, fun U nU => ?_⟩
      have sU := same_new (o := .tup [.str (mk (sps d)), .ref F]) nU
      refine ⟨U, _, rfl, SqT.of upd_same, rfl, _, _, rfl, _, _, rfl, rfl, ?_⟩
      have s1 := sF.trans sU
      have eF1 := sU _ _ eF
      have d1 := dr.same s1
      generalize upd (upd H F (.lst [])) U (.tup [.str (mk (sps d)), .ref F]) = H1 at s1 eF1 d1 ⊢
      have e11 := s1 _ _ e1
      have e21 := s1 _ _ e2
      have e31 := s1 _ _ e3
      have tD : t ≠ D ∧ t ≠ A1 := by
        obtain ⟨as, bs, c', q1, q2, _⟩ := dr.ex
        exact ⟨fun z => (by rw [z, q1] at e1; cases e1), fun z => (by rw [z, q2] at e1; cases e1)⟩
      have SD : S ≠ D ∧ S ≠ A1 := by simp at nS; exact ⟨nS.1, nS.2.1⟩
      have WD : W ≠ D ∧ W ≠ A1 := by simp at nW; exact ⟨nW.1, nW.2.1⟩
      have tF : t ≠ F := ne_of_none e1 nF
      have SF : S ≠ F := ne_of_none e2 nF
      have WF : W ≠ F := ne_of_none e3 nF
      refine ⟨.ref t, rfl, t, _, 2, .ref S, rfl, rfl, SqT.of e11, rfl, S, _, rfl, SqL.of e21, for_enum (K := K) (a := S) (xs := ((ss.map (·.1)).map mk).map V.str) (fun j σ H2 => ∃ (ss' : List (List Nat × List Nat)) (m : Int) (v4 v5 v6 : Option V), σ = [some (.ref D), some (.ref t), some (.str (mk (sps d))), some (.ref F), v4, v5, v6] ∧ H2 F = some (rowsV (srows d ss')) ∧ ss'.map (·.1) = (ss.map (·.1)).take j ∧ (∀ p ∈ ss', BOk p) ∧ Drw H2 D A1 B m ∧ m ≤ n + j ∧ Kept D A1 H H2) ⟨[], n, none, none, none, rfl, eF1, rfl, nofun, d1, by omega, Kept.of s1⟩ (fun j σ H2 _ h => by
        obtain ⟨_, _, _, _, _, _, _, _, _, _, _, k2⟩ := h
        exact SqL.of (k2 _ _ e2 SD.1 SD.2)) ?_ ?_⟩
      · rintro j v T σ H2 hv ⟨ss', m, v4, v5, v6, rfl, eF2, hfst, hb', d2, hm, k2⟩ nT
        obtain ⟨z, rfl, hz⟩ := str_at hv
        rw [List.getElem?_map] at hz
        obtain ⟨e, hl, rfl⟩ := Option.map_eq_some_iff.mp hz
        have hjl : j < (ss.map (·.1)).length := (List.getElem?_eq_some_iff.mp hl).1
        rw [List.length_map] at hjl
        have hj' : ss'.length = j := by
          have := congrArg List.length hfst
          rw [List.length_map, List.length_take, List.length_map] at this
          omega
        have el : e.length ≤ 20 := by
          obtain ⟨q, hq, rfl⟩ := List.mem_map.mp (List.mem_of_getElem? hl)
          exact (z3 q hq).2
        have sT := same_new (o := .tup [.int (j : Nat), .str (mk e)]) nT
        refine ⟨T, [.int (j : Nat), .str (mk e)], rfl, SqT.of upd_same, rfl, _, _, rfl, _, _, rfl, rfl, .str (mk e), rfl, rfl, _, rfl, ?_⟩
        have d3 := d2.same sT
        have eF3 := sT _ _ eF2
        have k3 : Kept D A1 H (upd H2 T (.tup [.int (j : Nat), .str (mk e)])) := k2.trans (Kept.of sT)
        generalize upd H2 T (.tup [.int (j : Nat), .str (mk e)]) = H3 at d3 eF3 k3 ⊢
        cases e with
        | nil =>
          rw [show (!decide (V.str (mk []) = V.str "")) = false by decide +kernel]
          refine iteF ⟨.ref D, rfl, D, A1, B, m, 2, rfl, d3, by omega, by decide, by decide, fun u H5 u0 u1 d5 k35 => ⟨" ", u, rfl, rfl, ?_, ?_⟩⟩
          · obtain ⟨u', rfl⟩ : ∃ u' : Nat, u = (u' : Int) := ⟨u.toNat, by omega⟩
            exact mulOk_sp (by omega)
          obtain ⟨b, hbu, hbk, hbl⟩ : ∃ b : List Nat, Txt.mul " " u = mk b ∧ BOk ([], b) ∧ b.length ≤ 30 := by
            rcases (show u = 0 ∨ u = 1 by omega) with rfl | rfl
            · exact ⟨[], mul_sps 0, .inr ⟨rfl, rfl⟩, by decide⟩
            · exact ⟨[32], mul_sps 1, .inl rfl, by decide⟩
          rw [hbu]
          have kF5 := k35 _ _ eF3 FD.1 FD.2
          have k5 := k3.trans k35
          obtain ⟨m5, hm5⟩ : ∃ m5, m5 = m + 1 := ⟨_, rfl⟩
          rw [← hm5] at d5
          generalize hee : ([] : List Nat) = e at hl hbk el
          have eF5 := kF5
          refine ⟨.ref F, rfl, .inl ⟨rfl, _, SqL.of eF5⟩, .str (mk (sps d)), rfl, by show 2 ≤ sizeLine; decide, fun Y nY => ⟨.int (j : Nat), rfl, _, _, rfl, rfl, .inr ⟨_, rfl, ?_⟩⟩⟩
          have sY := same_new (o := .lst [.str ">>>", .str "..."]) nY
          have eP : atI [V.str ">>>", V.str "..."] (if decide ((0 : Int) < (j : Nat)) = true then 1 else 0) = some (.str (mk (if ss'.length = 0 then P3 else D3))) := by
            rw [hj']
            by_cases h0 : j = 0
            · rw [h0, if_pos rfl, ← gt3]
              rfl
            · rw [if_neg h0, decide_eq_true (by omega), ← dots3]
              rfl
          have e1 : mk (sps d) ++ mk (if ss'.length = 0 then P3 else D3) = mk (sps d ++ (if ss'.length = 0 then P3 else D3)) := ext_tl (tl_append _ _)
          have e2 : mk (sps d ++ (if ss'.length = 0 then P3 else D3)) ++ mk b = mk (srow d (if ss'.length = 0 then P3 else D3) b) := ext_tl ((tl_append _ _).trans (List.append_assoc _ _ _))
          have l3 : (if ss'.length = 0 then P3 else D3).length = 3 := by split <;> rfl
          have ls : (sps d).length = d := List.length_replicate
          refine ⟨Y, _, _, .str (mk (if ss'.length = 0 then P3 else D3)), rfl, rfl, SqL.of upd_same, eP, _, _, rfl, rfl, ?_, .str (mk b), rfl, _, _, rfl, rfl, ?_, F, _, _, rfl, rfl, sY _ _ eF5, ?_, ss' ++ [(e, b)], m5, _, _, _, rfl, ?_, ?_, fun p hp => ?_, (d5.same sY).upd FD.1 FD.2 FB, by omega, fun x o e n1 n2 => ?_⟩
          · rw [mk_len, mk_len, ls, l3]
            exact line_of (by omega)
          · rw [e1, mk_len, mk_len, List.length_append, ls, l3]
            exact line_of (by omega)
          · rw [rowsV_len, srows_len, hj']
            exact Nat.lt_of_le_of_lt (show j ≤ 10 by omega) (by decide)
          · rw [upd_same, srows_snoc, e1, e2]
            exact congrArg some (rowsV_snoc _ (mk (srow d (if ss'.length = 0 then P3 else D3) b)))
          · rw [List.map_append, hfst, List.take_add_one, hl]
            rfl
          · rcases List.mem_append.mp hp with h | h
            · exact hb' p h
            · rw [List.mem_singleton.mp h]
              exact hbk
          · rw [upd_ne (ne_of_none e nF)]
            exact sY _ _ (k5 _ _ e n1 n2)
        | cons x0 e' =>
          have hne : decide (V.str (mk (x0 :: e')) = V.str "") = false := decide_eq_false fun h => by
            have h2 : mk (x0 :: e') = "" := V.str.inj h
            have h3 := congrArg tl h2
            have h4 : tl ("" : Str) = [] := by decide +kernel
            rw [h4] at h3
            cases h3
          rw [hne]
          have e32 : (" " : Str) ++ mk (x0 :: e') = mk (32 :: (x0 :: e')) := ext_tl (by
            rw [tl_append]
            rfl)
          have l32 := congrArg Str.length e32
          rw [app_len, mk_len (32 :: (x0 :: e'))] at l32
          refine iteT ⟨.str (mk (x0 :: e')), rfl, _, _, rfl, rfl, ?_, ?_⟩
          · rw [l32]
            exact line_of (by rw [List.length_cons]; omega)
          rw [e32]
          obtain ⟨b, hb⟩ : ∃ b, b = 32 :: (x0 :: e') := ⟨_, rfl⟩
          rw [← hb]
          have hbk : BOk (x0 :: e', b) := .inl hb
          have hbl : b.length ≤ 30 := by
            rw [hb, List.length_cons]
            omega
          have kF5 := eF3
          have d5 := d3
          have k5 := k3
          obtain ⟨m5, hm5⟩ : ∃ m5, m5 = m := ⟨_, rfl⟩
          rw [← hm5] at d5
          generalize hee : x0 :: e' = e at hl hbk el
          have eF5 := kF5
          refine ⟨.ref F, rfl, .inl ⟨rfl, _, SqL.of eF5⟩, .str (mk (sps d)), rfl, by show 2 ≤ sizeLine; decide, fun Y nY => ⟨.int (j : Nat), rfl, _, _, rfl, rfl, .inr ⟨_, rfl, ?_⟩⟩⟩
          have sY := same_new (o := .lst [.str ">>>", .str "..."]) nY
          have eP : atI [V.str ">>>", V.str "..."] (if decide ((0 : Int) < (j : Nat)) = true then 1 else 0) = some (.str (mk (if ss'.length = 0 then P3 else D3))) := by
            rw [hj']
            by_cases h0 : j = 0
            · rw [h0, if_pos rfl, ← gt3]
              rfl
            · rw [if_neg h0, decide_eq_true (by omega), ← dots3]
              rfl
          have e1 : mk (sps d) ++ mk (if ss'.length = 0 then P3 else D3) = mk (sps d ++ (if ss'.length = 0 then P3 else D3)) := ext_tl (tl_append _ _)
          have e2 : mk (sps d ++ (if ss'.length = 0 then P3 else D3)) ++ mk b = mk (srow d (if ss'.length = 0 then P3 else D3) b) := ext_tl ((tl_append _ _).trans (List.append_assoc _ _ _))
          have l3 : (if ss'.length = 0 then P3 else D3).length = 3 := by split <;> rfl
          have ls : (sps d).length = d := List.length_replicate
          refine ⟨Y, _, _, .str (mk (if ss'.length = 0 then P3 else D3)), rfl, rfl, SqL.of upd_same, eP, _, _, rfl, rfl, ?_, .str (mk b), rfl, _, _, rfl, rfl, ?_, F, _, _, rfl, rfl, sY _ _ eF5, ?_, ss' ++ [(e, b)], m5, _, _, _, rfl, ?_, ?_, fun p hp => ?_, (d5.same sY).upd FD.1 FD.2 FB, by omega, fun x o e n1 n2 => ?_⟩
          · rw [mk_len, mk_len, ls, l3]
            exact line_of (by omega)
          · rw [e1, mk_len, mk_len, List.length_append, ls, l3]
            exact line_of (by omega)
          · rw [rowsV_len, srows_len, hj']
            exact Nat.lt_of_le_of_lt (show j ≤ 10 by omega) (by decide)
          · rw [upd_same, srows_snoc, e1, e2]
            exact congrArg some (rowsV_snoc _ (mk (srow d (if ss'.length = 0 then P3 else D3) b)))
          · rw [List.map_append, hfst, List.take_add_one, hl]
            rfl
          · rcases List.mem_append.mp hp with h | h
            · exact hb' p h
            · rw [List.mem_singleton.mp h]
              exact hbk
          · rw [upd_ne (ne_of_none e nF)]
            exact sY _ _ (k5 _ _ e n1 n2)
      · rintro σ H2 ⟨ss', m, v4, v5, v6, rfl, eF2, hfst, hb', d2, hm, k2⟩
        rw [List.length_map, List.length_map, List.length_map] at hm
        have hfst2 : ss'.map (·.1) = ss.map (·.1) := by
          rw [hfst, List.length_map, List.length_map, List.take_length]
        have hlen : ss'.length = ss.length := by
          have := congrArg List.length hfst2
          rw [List.length_map, List.length_map] at this
          exact this
        have et := k2 _ _ e1 tD.1 tD.2
        have eW2 := k2 _ _ e3 WD.1 WD.2
        refine ⟨.ref F, rfl, .ref t, rfl, t, _, 3, .ref W, rfl, rfl, SqT.of et, rfl, W, rfl, ⟨_, SqL.of eW2⟩, fun C nC => lc_list (K := K) (a := W) (xs := (ws.map mk).map V.str) (fun i H3 => H3 C = some (rowsV ((ws.take i).map (sps d ++ ·))) ∧ Same H2 H3) ⟨upd_same, same_new nC⟩ (fun i H3 _ h => SqL.of (h.2 _ _ eW2)) ?_ ?_⟩
        · rintro i v H3 hv ⟨eC, s3⟩
          obtain ⟨z, rfl, hz⟩ := str_at hv
          rw [List.getElem?_map] at hz
          obtain ⟨l, hl, rfl⟩ := Option.map_eq_some_iff.mp hz
          have ll := (z5 l (List.mem_of_getElem? hl)).2
          have ls : (sps d).length = d := List.length_replicate
          refine ⟨rfl, ?_⟩
          unfold tYes
          show ite (true = true) _ _
          rw [if_pos rfl]
          refine ⟨.str (mk (sps d)), rfl, .str (mk l), rfl, _, _, rfl, rfl, ?_, _, eC, ?_, ?_, fun b o e => ?_⟩
          · rw [mk_len, mk_len, ls]
            exact line_of (by omega)
          · rw [rowsV_len, List.length_map, List.length_take]
            exact Nat.lt_of_le_of_lt (show min i ws.length ≤ 10 by omega) (by decide)
          · rw [upd_same, List.take_add_one, hl, List.map_append]
            have e4 : mk (sps d) ++ mk l = mk (sps d ++ l) := ext_tl (tl_append _ _)
            rw [e4]
            exact congrArg some (rowsV_snoc _ (mk (sps d ++ l)))
          · rw [upd_ne (ne_of_none e nC)]
            exact s3 b o e
        · rintro H3 ⟨eC, s3⟩
          rw [rowsV_len, List.take_length] at eC
          refine ⟨F, C, _, _, rfl, rfl, s3 _ _ eF2, eC, ?_, fun r nr => ?_⟩
          · rw [rowsV_len, rowsV_len, srows_len, List.length_map]
            exact Nat.le_trans (show ss'.length + ws.length ≤ 10 by omega) (by decide)
          have sr := same_new (o := .lst ((srows d ss').map mk |>.map V.str |>.append (((ws.map (sps d ++ ·)).map mk).map V.str))) nr
          have d3 := d2.same s3
          have rD := fresh_ne d3 nr
          have rB : r ≠ B := by
            obtain ⟨_, _, ⟨_, eB⟩⟩ := d3.tracked
            exact (ne_of_none eB nr).symm
          obtain ⟨o1, o2, o3, o4, o5⟩ := ho
          refine k (.ex c d ss' ws) r m _ ⟨rfl, rfl, hfst2.symm, rfl⟩ ⟨fun h => o1 ?_, fun p hp => ⟨hb' p hp, ?_⟩, by rw [hfst2]; exact o3, o4, o5⟩ ?_ (by simp [rD.1, rD.2, rB]) (d3.new nr) (by omega) ((k2.trans (Kept.of s3)).trans (Kept.of (same_new nr)))
          · rw [h] at hlen
            exact List.length_eq_zero_iff.mp hlen.symm
          · have h2 : p.1 ∈ ss.map (·.1) := by
              rw [← hfst2]
              exact List.mem_map.mpr ⟨p, hp, rfl⟩
            obtain ⟨q, hq, hq2⟩ := List.mem_map.mp h2
            rw [← hq2]
            exact (o2 q hq).2
          · rw [upd_same]
            show some (HO.lst (((srows d ss').map mk).map V.str ++ ((ws.map (sps d ++ ·)).map mk).map V.str)) = some (rowsV (srows d ss' ++ ws.map (sps d ++ ·)))
            unfold rowsV
            rw [List.map_append, List.map_append]
end

/-! ### errors, bare lines, what is shown, what is the same -/
theorem op_is_bl {X : Cx} : OpR X (compareOp .Is) (fun x y H Q => ∃ a b : Bool, x = .bl a ∧ y = .bl b ∧ Q (.bl (a == b)) H) := by
  intro pins s σ H x y v u Q I rx ry h
  obtain ⟨a, b, rfl, rfl, q⟩ := h
  cases rx
  cases ry
  exact is_bool (fin_bl I q rfl)
theorem flatO_some {d : List (List Nat)} (h : d ≠ []) : flatO d = some (joinL [] d) := by
  cases d with
  | nil => exact absurd rfl h
  | cons a r => rfl
theorem cut_one (l : List Nat) : cutS (mk l) none (some (1 : Int)) = mk (l.take 1) := by
  refine ext_tl ?_
  show (l.drop (HT.sIx (mk l).length 0 none)).take (HT.sIx (mk l).length (mk l).length (some ((1 : Nat) : Int)) - HT.sIx (mk l).length 0 none) = l.take 1
  rw [HT.sIx_none, HT.sIx_nat, List.drop_zero, Nat.sub_zero, mk_len]
  cases l with
  | nil => rfl
  | cons c r =>
    rw [List.length_cons, Nat.min_eq_left (by omega)]
theorem wordS_cut (l : List Nat) : wordS l = (Txt.isalnum (mk (l.take 1)) || decide (V.str (mk (l.take 1)) = V.str "_")) := by
  cases l with
  | nil => decide +kernel
  | cons c r =>
    show (c == 95 || Txt.isalnum ⟨#[c]⟩) = (Txt.isalnum ⟨#[c]⟩ || decide (V.str ⟨#[c]⟩ = V.str "_"))
    rw [us_dec, Bool.or_comm]
theorem sum_le_of {b : Nat} : ∀ {ls : List (List Nat)}, (∀ l ∈ ls, l.length ≤ b) → (ls.map (·.length)).sum ≤ ls.length * b
  | [], _ => Nat.zero_le _
  | a :: r, h => by
    have h1 := h a (List.mem_cons_self ..)
    have h2 := sum_le_of fun l hl => h l (List.mem_cons_of_mem _ hl)
    rw [List.map_cons, List.sum_cons, List.length_cons, Nat.succ_mul]
    omega
section
variable {P : Program} {w : World} {K : PySem.W.Frag} {mg : Str → Option Value} {base : Heap}
def sp_law_error : Sp := fun vs H Q _ => ∃ (p : Addr) (ws : List (List Nat)), vs = [.ref p] ∧ H p = some (rowsV ws) ∧ (∀ l ∈ ws, l.length ≤ 60 ∧ ∀ c ∈ l, c < 1114112) ∧ ws.length ≤ 20 ∧ ∀ H', Same H H' → Q (optV (errL ws)) H'
theorem ok_law_error {f : Addr} {fd : FuncData} {dvs : List V} (F : Fn K "_law_error" s_law_error dvs f fd) (m_len : mg "len" = none) (m_range : mg "range" = none) : FnOk P w K mg base CX0 1 f fd ["lines"] (sp_law_error) := by
  refine Fn.okN F sc_law_error (fun vs H Q E h => ?_) (fun cdv A outer s H vs Q E hr h => ?_)
  · obtain ⟨_, _, rfl, _⟩ := h
    rfl
  · obtain ⟨p, ws, rfl, hp, hl, hn, k⟩ := h
    refine ⟨_, (pss_cons (ps_set (i := 1) sc_law_error.nd rfl (.inl rfl) (pe_tup (pa_cons pe_str (pa_cons pe_str pa_nil))))
      (pss_cons (ps_if (PW.pt (pw_or (pt_cmpR (op_eqD hr.units) (pv 0) (pe_lst pa_nil) (nomark _)) (pw_or1 (pt_cmpR op_notIn_seq (pe_m1 PySem.F.slot_str_rstrip PySem.F.type_str_rstrip mt_rstripChars (pe_ix ix_list (pv 0) pe_int (fun _ _ => rfl)) pe_str) (pv 1) rfl))))
          (pss_one (ps_ret pe_non))
          pss_nil)
      (pss_cons (ps_for PassesOwn.never rfl (pi_range2 rfl m_range (pa_cons pe_int (pa_cons (pe_callB call_len_seq (by rfl) m_len PySem.boot_len (pa_cons (pv 0) pa_nil)) pa_nil))) (pg_name (i := 2) sc_law_error.nd rfl (.inl rfl))
          (pss_one (ps_if (PW.pt (pw_or (pt_val (pe_m0 PySem.F.slot_str_isalnum PySem.F.type_str_isalnum mt_isalnum (pe_slice sl_str (pe_ix ix_list (pv 0) (pv 2) (fun _ _ => rfl)) po_none (po_some pe_int)))) (pw_or1 (pt_cmpR op_eq (pe_slice sl_str (pe_ix ix_list (pv 0) (pv 2) (fun _ _ => rfl)) po_none (po_some pe_int)) pe_str (nomark _)))))
                (pss_one (ps_ret (pe_m1 PySem.F.slot_str_join PySem.F.type_str_join mt_join pe_str (pe_lc (own := [("each", 3)]) (g := gName 3) (tt := tYes) (by rfl) sc_law_error.nd (pi_list (pe_slice sl_list (pv 0) (po_some (pv 2)) po_none)) (blkOk_by (own := [("each", 3)]) (N := ["lines", "heads", "at", "each"]) (sc := defScope s_law_error) (by decide +kernel)) (fun _ _ _ _ _ => (pg_name (i := 3) sc_law_error.nd rfl (.inl rfl))) (fun _ _ _ _ _ => pts_nil) (fun _ _ _ _ _ => (pe_op op_add_str (pv 3) pe_str))))))
                pss_nil)))
      (pss_one (ps_ret pe_non))))), ?_⟩
    have oks : ∀ x ∈ ws.map mk, okS x := fun x hx => by
      obtain ⟨l, h, rfl⟩ := List.mem_map.mp hx
      exact okS_iff.mpr (hl l h).2
    refine ⟨by show 2 ≤ sizeLine; decide, fun T nT => ?_⟩
    have sT := same_new (o := .tup [.str "Traceback (most recent call last):", .str "Traceback (innermost last):"]) nT
    have tT := upd_same (H := H) (a := T) (o := .tup [.str "Traceback (most recent call last):", .str "Traceback (innermost last):"])
    generalize upd H T (.tup [.str "Traceback (most recent call last):", .str "Traceback (innermost last):"]) = H1 at sT tT ⊢
    refine ⟨.ref p, rfl, by show 0 ≤ sizeLine; decide, fun Z nZ => ?_⟩
    have sZ := same_new (o := .lst []) nZ
    refine ⟨_, _, .lst (SqL.of (sZ _ _ (sT _ _ hp))) (dp_strs _), .lst (SqL.of upd_same) .nil, shaped_strs _ oks, shaped_strs [] nofun, _, rfl, ?_⟩
    have tT2 := sZ _ _ tT
    have s2 := sT.trans sZ
    generalize upd H1 Z (.lst []) = H2 at s2 tT2 ⊢
    have hp2 := s2 _ _ hp
    clear sZ nZ tT sT nT
    rw [eqv_nilS]
    cases ws with
    | nil => exact iteT (iteT (k _ s2))
    | cons h r =>
      have eh : inV (.str (Txt.rstripChars (mk h) " ")) [.str "Traceback (most recent call last):", .str "Traceback (innermost last):"] = isHead h := rfl
      have hh := (hl h (List.mem_cons_self ..)).1
      refine iteF ⟨.ref p, rfl, p, _, 0, .str (mk h), rfl, rfl, SqL.of hp2, atI_nat (j := 0) rfl, ⟨_, rfl⟩, mk h, " ", rfl, rfl, by rw [mk_len]; exact line_of (by omega), .ref T, rfl, T, _, rfl, .inr (SqT.of tT2), rfl, rfl, _, rfl, ?_⟩
      rw [eh]
      unfold errL at k
      dsimp only at k
      cases hd : isHead h with
      | false =>
        rw [hd] at k
        exact iteT (k _ s2)
      | true =>
        rw [hd, if_pos rfl] at k
        have hlen : (((h :: r).map mk).map V.str).length = r.length + 1 := by rw [List.length_map, List.length_map]; rfl
        rw [List.length_cons] at hn
        refine iteF ⟨.ref p, rfl, p, _, rfl, .inl (SqL.of hp2), ?_⟩
        rw [hlen]
        refine ⟨1, ((r.length + 1 : Nat) : Int), rfl, ⟨by decide, by decide, by omega, by omega⟩, for_range (lo := 1) (n := (((r.length + 1 : Nat) : Int) - 1).toNat) (fun i σ H3 => ∃ v2, σ = [some (.ref p), some (.ref T), v2, none] ∧ Same H2 H3 ∧ ∀ j l, j < i → r[j]? = some l → wordS l = false) ⟨_, rfl, fun _ _ e => e, fun j l a _ => absurd a (Nat.not_lt_zero _)⟩ ?_ ?_⟩
        · rintro i σ H3 hi ⟨v2, rfl, s3, hb⟩
          have hir : i < r.length := by omega
          have ei : (1 : Int) + (i : Nat) = ((i + 1 : Nat) : Int) := by omega
          have hl2 : r[i]? = some r[i] := List.getElem?_eq_getElem hir
          have hm := List.mem_of_getElem? hl2
          have hg : (((h :: r).map mk).map V.str)[i + 1]? = some (.str (mk r[i])) := by
            rw [List.getElem?_map, List.getElem?_map, List.getElem?_cons_succ, hl2]
            rfl
          have hll := (hl _ (List.mem_cons_of_mem _ hm)).1
          generalize r[i] = l at hl2 hm hg hll
          have lz : (mk l).length ≤ sizeLine := by rw [mk_len]; exact line_of (by omega)
          have wc := wordS_cut l
          rw [ei]
          refine ⟨.ref p, rfl, .int ((i + 1 : Nat) : Int), rfl, p, _, _, .str (mk l), rfl, rfl, SqL.of (s3 _ _ hp2), atI_nat hg, 1, rfl, mk l, rfl, lz, ⟨_, rfl⟩, _, rfl, rfl, trivial, _, rfl, ?_⟩
          rw [cut_one]
          cases hw : wordS l with
          | false =>
            rw [hw] at wc
            have w2 := Bool.or_eq_false_iff.mp wc.symm
            rw [w2.1]
            refine iteF ⟨.ref p, rfl, .int ((i + 1 : Nat) : Int), rfl, p, _, _, .str (mk l), rfl, rfl, SqL.of (s3 _ _ hp2), atI_nat hg, 1, rfl, mk l, rfl, lz, rfl, _, rfl, ?_⟩
            rw [cut_one, w2.2]
            refine iteF ⟨_, rfl, s3, fun j l' hj hjl => ?_⟩
            rcases Nat.lt_or_ge j i with a | a
            · exact hb j l' a hjl
            · have : j = i := by omega
              rw [this, hl2] at hjl
              cases hjl
              exact hw
          | true =>
            rw [hw] at wc
            refine ite_same ?_ (fun h1 c => iteT c) (fun h1 c => ⟨.ref p, rfl, .int ((i + 1 : Nat) : Int), rfl, p, _, _, .str (mk l), rfl, rfl, SqL.of (s3 _ _ hp2), atI_nat hg, 1, rfl, mk l, rfl, lz, rfl, _, rfl, by
              rw [cut_one, show decide (V.str (mk (l.take 1)) = V.str "_") = true by
                rw [h1, Bool.false_or] at wc
                exact wc.symm]
              exact iteT c⟩)
            have dw : (r.dropWhile fun l => !wordS l) = r.drop i := dropWhile_at hl2 (by rw [hw]; rfl) fun j l' hj hjl => by rw [hb j l' hj hjl]; rfl
            have dn : r.drop i ≠ [] := fun z => by
              have := congrArg List.length z
              rw [List.length_drop] at this
              have z0 : ([] : List (List Nat)).length = 0 := rfl
              omega
            rw [dw, flatO_some (by rw [ne_eq, List.map_eq_nil_iff]; exact dn)] at k
            refine ⟨⟨_, rfl⟩, .ref p, rfl, .int ((i + 1 : Nat) : Int), rfl, _, rfl, p, _, rfl, SqL.of (s3 _ _ hp2), fun q nq => ?_⟩
            have ec : cutV (((h :: r).map mk).map V.str) (some ((i + 1 : Nat) : Int)) none = ((r.drop i).map mk).map V.str := by
              rw [cutV_drop _ _ (by rw [hlen]; omega), List.map_drop, List.map_drop]
              rfl
            have sq := same_new (o := .lst (((r.drop i).map mk).map V.str)) nq
            rw [ec]
            have hq : ∀ l ∈ r.drop i, l.length ≤ 60 := fun l hl' => (hl l (List.mem_cons_of_mem _ (List.mem_of_mem_drop hl'))).1
            have hqn : (r.drop i).length ≤ 20 := by
              rw [List.length_drop]
              omega
            generalize r.drop i = ds at k sq hq hqn ec dn ⊢
            refine ⟨q, rfl, ⟨_, SqL.of upd_same⟩, fun M nM => lc_list (K := K) (a := q) (xs := (ds.map mk).map V.str) (fun i H4 => H4 M = some (rowsV ((ds.take i).map (· ++ [10]))) ∧ Same (upd H3 q (.lst ((ds.map mk).map V.str))) H4) ⟨upd_same, same_new nM⟩ (fun i H4 _ h4 => SqL.of (h4.2 _ _ upd_same)) ?_ ?_⟩
            · rintro i v H4 hv ⟨eM, s4⟩
              obtain ⟨z, rfl, hz⟩ := str_at hv
              rw [List.getElem?_map] at hz
              obtain ⟨l, hl2, rfl⟩ := Option.map_eq_some_iff.mp hz
              have gl := hq l (List.mem_of_getElem? hl2)
              have l1 : ("\n" : Str).length = 1 := rfl
              refine ⟨rfl, ?_⟩
              unfold tYes
              show ite (true = true) _ _
              rw [if_pos rfl]
              refine ⟨.str (mk l), rfl, _, _, rfl, rfl, ?_, _, eM, ?_, ?_, fun b o e => ?_⟩
              · rw [mk_len, l1]
                exact line_of (by omega)
              · rw [List.length_map, List.length_map, List.length_map, List.length_take]
                exact Nat.lt_of_le_of_lt (show min i ds.length ≤ 20 by omega) (by decide)
              · rw [upd_same, List.take_add_one, hl2, List.map_append]
                unfold rowsV
                rw [List.map_append, List.map_append]
                exact congrArg (fun v => some (HO.lst ((((ds.take i).map (· ++ [10])).map mk).map V.str ++ [v]))) (congrArg V.str (ext_tl (by rw [tl_append]; rfl)))
              · rw [upd_ne (ne_of_none e nM)]
                exact s4 b o e
            rintro H4 ⟨eM, s4⟩
            rw [List.length_map, List.length_map, List.take_length] at eM
            refine ⟨"", M, (ds.map (· ++ [10])).map mk, rfl, rfl, .inl (SqL.of eM), ?_, ?_⟩
            · have e0 : ("" : Str).length = 0 := by decide +kernel
              have sb := sum_le_of hq
              rw [e0, Nat.mul_zero, List.map_map]
              show ((ds.map (· ++ [10])).map (·.length)).sum + 0 ≤ _
              rw [sum_fed]
              omega
            · have e0 : ("" : Str) = mk [] := ext_tl (by decide +kernel)
              rw [e0, join_mk]
              exact k _ (s2.trans (s3.trans (sq.trans s4)))
        · rintro σ H3 ⟨v2, rfl, s3, hb⟩
          rw [dropWhile_none (fun l hl => ?_)] at k
          · exact k _ (s2.trans s3)
          · obtain ⟨j, hj, e⟩ := List.getElem_of_mem hl
            rw [hb j l (by omega) (by rw [List.getElem?_eq_getElem hj, e])]
            rfl
def bareLT (ls : List (List Nat)) : Str := mk (joinL [] (ls.map fun l => tl (Txt.rstripChars (mk l) " ") ++ [10]))
theorem rstrip_le (l : List Nat) (y : Str) : (Txt.rstripChars (mk l) y).length ≤ l.length := by
  have := len_stripBy y.cps.contains false true (mk l)
  rw [mk_len] at this
  exact this
def sp_law_bare_lines : Sp := fun vs H Q _ => ∃ (p : Addr) (ls : List (List Nat)), vs = [.ref p] ∧ H p = some (rowsV ls) ∧ (∀ l ∈ ls, l.length ≤ 60) ∧ ls.length ≤ 20 ∧ ∀ H', Same H H' → Q (.str (bareLT ls)) H'
theorem ok_law_bare_lines {f : Addr} {fd : FuncData} {dvs : List V} (F : Fn K "_law_bare_lines" s_law_bare_lines dvs f fd) : FnOk P w K mg base CX0 1 f fd ["lines"] (sp_law_bare_lines) := by
  refine Fn.okN F sc_law_bare_lines (fun vs H Q E h => ?_) (fun cdv A outer s H vs Q E hr h => ?_)
  · obtain ⟨_, _, rfl, _⟩ := h
    rfl
  · obtain ⟨p, ls, rfl, hp, hl, hn, k⟩ := h
    refine ⟨_, (pss_one (ps_ret (pe_m1 PySem.F.slot_str_join PySem.F.type_str_join mt_join pe_str (pe_lc (own := [("each", 1)]) (g := gName 1) (tt := tYes) (by rfl) sc_law_bare_lines.nd (pi_list (pv 0)) (blkOk_by (own := [("each", 1)]) (N := ["lines", "each"]) (sc := defScope s_law_bare_lines) (by decide +kernel)) (fun _ _ _ _ _ => (pg_name (i := 1) sc_law_bare_lines.nd rfl (.inl rfl))) (fun _ _ _ _ _ => pts_nil) (fun _ _ _ _ _ => (pe_op op_add_str (pe_m1 PySem.F.slot_str_rstrip PySem.F.type_str_rstrip mt_rstripChars (pv 1) pe_str) pe_str)))))), ?_⟩
    refine ⟨⟨_, rfl⟩, .ref p, rfl, p, rfl, ⟨_, SqL.of hp⟩, fun C nC => lc_list (K := K) (a := p) (xs := (ls.map mk).map V.str) (fun i H2 => H2 C = some (rowsV ((ls.take i).map fun l => tl (Txt.rstripChars (mk l) " ") ++ [10])) ∧ Same H H2) ⟨upd_same, same_new nC⟩ (fun i H2 _ h => SqL.of (h.2 _ _ hp)) ?_ ?_⟩
    · rintro i v H2 hv ⟨eC, s2⟩
      obtain ⟨z, rfl, hz⟩ := str_at hv
      rw [List.getElem?_map] at hz
      obtain ⟨l, hl1, rfl⟩ := Option.map_eq_some_iff.mp hz
      have ll := hl l (List.mem_of_getElem? hl1)
      have lr := rstrip_le l " "
      have l1 : ("\n" : Str).length = 1 := rfl
      refine ⟨rfl, ?_⟩
      unfold tYes
      show ite (true = true) _ _
      rw [if_pos rfl]
      refine ⟨.str (mk l), rfl, ⟨_, rfl⟩, mk l, " ", rfl, rfl, by rw [mk_len]; exact line_of (by omega), _, _, rfl, rfl, by rw [l1]; exact line_of (by omega), _, eC, ?_, ?_, fun b o e => ?_⟩
      · rw [rowsV_len, List.length_map, List.length_take]
        exact Nat.lt_of_le_of_lt (show min i ls.length ≤ 100 by omega) (by decide)
      · rw [upd_same, List.take_add_one, hl1, List.map_append]
        have e4 : Txt.rstripChars (mk l) " " ++ "\n" = mk (tl (Txt.rstripChars (mk l) " ") ++ [10]) := ext_tl (by
          rw [tl_append]
          rfl)
        rw [e4]
        exact congrArg some (rowsV_snoc _ (mk (tl (Txt.rstripChars (mk l) " ") ++ [10])))
      · rw [upd_ne (ne_of_none e nC)]
        exact s2 b o e
    · rintro H2 ⟨eC, s2⟩
      rw [rowsV_len, List.take_length] at eC
      have e0 : ("" : Str).length = 0 := by decide +kernel
      have hq : ∀ l ∈ ls.map (fun l => tl (Txt.rstripChars (mk l) " ") ++ [10]), l.length ≤ 61 := fun l h => by
        obtain ⟨l', h', rfl⟩ := List.mem_map.mp h
        have a1 := rstrip_le l' " "
        have a2 := hl l' h'
        rw [List.length_append, ← len_tl]
        show _ + 1 ≤ 61
        omega
      have sb := sum_le_of hq
      rw [List.length_map] at sb
      refine ⟨"", C, _, rfl, rfl, .inl (SqL.of eC), ?_, ?_⟩
      · rw [e0, Nat.mul_zero, List.map_map]
        show ((ls.map (fun l => tl (Txt.rstripChars (mk l) " ") ++ [10])).map (·.length)).sum + 0 ≤ _
        omega
      · have e00 : ("" : Str) = mk [] := ext_tl (by decide +kernel)
        rw [e00, join_mk]
        exact k _ s2
end
theorem kit_tyno {K : PySem.W.Frag} {C : Addr} {T : String} (hm : PySem.W.kitMeta T = true) (sub : PySem.W.subIn K (.ref C) (.type T) = some false) : PySem.W.kitOne K (.ref C) (.type T) = some false := by
  have h2 : (Value.ref C == Value.type T) = false := beq_eq_false_iff_ne.mpr nofun
  unfold PySem.W.kitOne PySem.W.kitCls
  rw [h2, if_neg Bool.false_ne_true]
  dsimp only
  rw [if_pos hm, sub]
theorem kit_no {K : PySem.W.Frag} {t : Value} {C : Addr} (is : PySem.W.isClsIn K C = true) (ty : PySem.W.typeIn K (.ref C) = some (.type "type")) (sub : PySem.W.subIn K t (.ref C) = some false) (ne : t ≠ .ref C) : PySem.W.kitOne K t (.ref C) = some false := by
  have h1 : (PySem.W.clsIn K C).isSome = true := is
  have h2 : (t == Value.ref C) = false := beq_eq_false_iff_ne.mpr ne
  have h3 : ((PySem.W.clsIn K C).isSome && PySem.W.typeIn K (.ref C) == some (.type "type")) = true := by
    rw [h1, ty]
    rfl
  unfold PySem.W.kitOne PySem.W.kitCls
  rw [h2, if_neg Bool.false_ne_true]
  dsimp only
  rw [if_pos h3, sub]
section
variable {P : Program} {w : World} {K : PySem.W.Frag} {mg : Str → Option Value} {base : Heap}
def sp_law_shown (CE CC : Addr) : Sp := fun vs H Q _ => ∃ v : V, vs = [v] ∧
  ((∃ x : Str, v = .str x ∧ ∀ (H' : Hp) (T : Addr), Same H H' → H T = none → H' T = some (.tup [.str "text", .str x]) → Q (.ref T) H') ∨
   (∃ (q dx : Addr) (fs : List (Str × V)) (src wt : Str) (n i : Int), v = .ref q ∧ H q = some (.ins CC dx fs) ∧ CoF fs src wt n i ∧ ∀ (H' : Hp) (T : Addr), Same H H' → H T = none → H' T = some (.tup [.str "comment", .str src, .str wt, .int n, .int i]) → Q (.ref T) H') ∨
   (∃ (q dx : Addr) (fs : List (Str × V)) (src wt br : Str) (er : V) (n i : Int), v = .ref q ∧ H q = some (.ins CE dx fs) ∧ ExF H fs src wt er n i br ∧ ∀ (H' : Hp) (T L : Addr), Same H H' → H T = none → H L = none → H' L = some (.lst []) → H' T = some (.tup [.str "example", .str src, .str wt, .int n, .int i, er, .ref L, .str br]) → Q (.ref T) H'))
theorem ok_law_shown {f : Addr} {fd : FuncData} {dvs : List V} (F : Fn K "_law_shown" s_law_shown dvs f fd) {C_Example : Addr} (T_Example : Txt_Example K mg C_Example) {C_Comment : Addr} (T_Comment : Txt_Comment K mg C_Comment) (m_isinstance : mg "isinstance" = none) (m_list : mg "list" = none) (m_sorted : mg "sorted" = none) (m_str : mg "str" = none) (z_EC : PySem.W.subIn K (.ref C_Example) (.ref C_Comment) = some false) (z_EE : PySem.W.subIn K (.ref C_Example) (.ref C_Example) = some true) (z_iC : PySem.W.isClsIn K C_Comment = true) (z_tC : PySem.W.typeIn K (.ref C_Comment) = some (.type "type")) (z_Es : PySem.W.subIn K (.ref C_Example) (.type "str") = some false) (z_Cs : PySem.W.subIn K (.ref C_Comment) (.type "str") = some false) : FnOk P w K mg base CX0 1 f fd ["piece"] (sp_law_shown C_Example C_Comment) := by
  refine Fn.okN F sc_law_shown (fun vs H Q E h => ?_) (fun cdv A outer s H vs Q E hr h => ?_)
  · obtain ⟨_, rfl, _⟩ := h
    rfl
  · obtain ⟨v, rfl, hv⟩ := h
    refine ⟨_, (pss_cons (ps_if (pt_val (pe_callB call_isi (by rfl) m_isinstance (by decide +kernel) (pa_cons (pv 0) (pa_cons (pe_bltn (v := .ty "str") (by rfl) m_str (by decide +kernel) rfl) pa_nil))))
          (pss_one (ps_ret (pe_tup (pa_cons pe_str (pa_cons (pv 0) pa_nil)))))
          pss_nil)
      (pss_cons (ps_if (pt_val (pe_callB (call_isiK (K' := K) rfl) (by rfl) m_isinstance (by decide +kernel) (pa_cons (pv 0) (pa_cons (pe_glob (v := .ref C_Comment) rfl T_Comment.mgC rfl) pa_nil))))
          (pss_one (ps_ret (pe_tup (pa_cons pe_str (pa_cons (pe_fldK (K' := K) rfl (pv 0) rfl) (pa_cons (pe_fldK (K' := K) rfl (pv 0) rfl) (pa_cons (pe_fldK (K' := K) rfl (pv 0) rfl) (pa_cons (pe_fldK (K' := K) rfl (pv 0) rfl) pa_nil))))))))
          pss_nil)
      (pss_cons (ps_set (i := 1) sc_law_shown.nd rfl (.inl rfl) (pe_tup (pa_cons (pe_fldK (K' := K) rfl (pv 0) rfl) (pa_cons (pe_callB cr_sorted (by rfl) m_sorted (by decide +kernel) (pa_cons (LiI.pe_listItems rfl (pe_fldK (K' := K) rfl (pv 0) rfl) (by rfl) m_list (by decide +kernel)) pa_nil)) (pa_cons (pe_fldK (K' := K) rfl (pv 0) rfl) pa_nil)))))
      (pss_one (ps_ret (pe_op op_catT (pe_tup (pa_cons pe_str (pa_cons (pe_fldK (K' := K) rfl (pv 0) rfl) (pa_cons (pe_fldK (K' := K) rfl (pv 0) rfl) (pa_cons (pe_fldK (K' := K) rfl (pv 0) rfl) (pa_cons (pe_fldK (K' := K) rfl (pv 0) rfl) pa_nil)))))) (pv 1))))))), ?_⟩
    rcases hv with ⟨x, rfl, k⟩ | ⟨q, dx, fs, src, wt, n, i, rfl, eq, cf, k⟩ | ⟨q, dx, fs, src, wt, br, er, n, i, rfl, eq, ef, k⟩
    · refine ⟨.str x, rfl, .str x, _, _, _, true, rfl, .ty "str", .base (.str x), kit_ty (by decide +kernel), true, rfl, iteT ⟨.str x, rfl, by show 2 ≤ sizeLine; decide, fun T nT => ?_⟩⟩
      exact k _ T (same_new nT) nT upd_same
    · refine ⟨.ref q, rfl, .ref q, _, _, _, false, rfl, .ty "str", .base (.ins eq T_Comment.cl T_Comment.ha T_Comment.hn T_Comment.ht T_Comment.hm), kit_tyno (by decide +kernel) z_Cs, false, rfl, iteF ?_⟩
      refine ⟨.ref q, rfl, .ref q, _, _, _, true, rfl, .own C_Comment, .base (.ins eq T_Comment.cl T_Comment.ha T_Comment.hn T_Comment.ht T_Comment.hm), T_Comment.ko, true, rfl, iteT ?_⟩
      refine ⟨.ref q, rfl, q, C_Comment, dx, fs, _, rfl, eq, T_Comment.cl, T_Comment.n_source, cf.source, .ref q, rfl, q, C_Comment, dx, fs, _, rfl, eq, T_Comment.cl, T_Comment.n_want, cf.want, .ref q, rfl, q, C_Comment, dx, fs, _, rfl, eq, T_Comment.cl, T_Comment.n_line, cf.line, .ref q, rfl, q, C_Comment, dx, fs, _, rfl, eq, T_Comment.cl, T_Comment.n_indent, cf.indent, by show 5 ≤ sizeLine; decide, fun T nT => ?_⟩
      exact k _ T (same_new nT) nT upd_same
    · have nEC : Value.ref C_Example ≠ .ref C_Comment := fun z => by
        rw [← z, z_EE] at z_EC
        cases z_EC
      refine ⟨.ref q, rfl, .ref q, _, _, _, false, rfl, .ty "str", .base (.ins eq T_Example.cl T_Example.ha T_Example.hn T_Example.ht T_Example.hm), kit_tyno (by decide +kernel) z_Es, false, rfl, iteF ?_⟩
      refine ⟨.ref q, rfl, .ref q, _, _, _, false, rfl, .own C_Comment, .base (.ins eq T_Example.cl T_Example.ha T_Example.hn T_Example.ht T_Example.hm), kit_no z_iC z_tC z_EC nEC, false, rfl, iteF ?_⟩
      obtain ⟨o, o1, o2⟩ := ef.options
      refine ⟨.ref q, rfl, q, C_Example, dx, fs, _, rfl, eq, T_Example.cl, T_Example.n_error, ef.error, .ref q, rfl, q, C_Example, dx, fs, _, rfl, eq, T_Example.cl, T_Example.n_options, o1, o, [], rfl, o2, fun H1 p ts s1 np _ _ ep hpair => ?_⟩
      cases hpair
      refine ⟨p, [], rfl, SqL.of ep, by decide, fun ns' L hperm _ nL => ?_⟩
      have e0 : ns' = [] := hperm.eq_nil
      subst e0
      have nLH : H L = none := (fun {b : Addr} (n : H1 b = none) => Same.free s1 n) nL
      have sL := same_new (o := .lst (([] : List Int).map V.int)) nL
      have s2 : Same H (upd H1 L (.lst (([] : List Int).map V.int))) := fun b o e => sL _ _ (s1 _ _ e)
      have eL : (upd H1 L (.lst (([] : List Int).map V.int))) L = some (.lst []) := upd_same
      generalize upd H1 L (.lst (([] : List Int).map V.int)) = H2 at s2 eL ⊢
      have eq2 := s2 _ _ eq
      refine ⟨.ref q, rfl, q, C_Example, dx, fs, _, rfl, eq2, T_Example.cl, T_Example.n_bare, ef.bare, by show 3 ≤ sizeLine; decide, fun R nR => ?_⟩
      have sR := same_new (o := .tup [er, .ref L, .str br]) nR
      have eR : (upd H2 R (.tup [er, .ref L, .str br])) R = some (.tup [er, .ref L, .str br]) := upd_same
      have eq3 := sR _ _ eq2
      have eL3 := sR _ _ eL
      have s3 := s2.trans sR
      generalize upd H2 R (.tup [er, .ref L, .str br]) = H3 at sR eR eq3 eL3 s3 ⊢
      refine ⟨.ref q, rfl, q, C_Example, dx, fs, _, rfl, eq3, T_Example.cl, T_Example.n_source, ef.source, .ref q, rfl, q, C_Example, dx, fs, _, rfl, eq3, T_Example.cl, T_Example.n_want, ef.want, .ref q, rfl, q, C_Example, dx, fs, _, rfl, eq3, T_Example.cl, T_Example.n_line, ef.line, .ref q, rfl, q, C_Example, dx, fs, _, rfl, eq3, T_Example.cl, T_Example.n_indent, ef.indent, by show 5 ≤ sizeLine; decide, fun U nU => ?_⟩
      have sU := same_new (o := .tup [.str "example", .str src, .str wt, .int n, .int i]) nU
      refine ⟨.ref R, rfl, U, R, _, _, rfl, rfl, SqT.of upd_same, SqT.of (sU _ _ eR), by simp, by show 8 ≤ sizeLine; decide, fun z => (by cases z), fun _ T nT => ?_⟩
      have sT := same_new (o := .tup ([.str "example", .str src, .str wt, .int n, .int i] ++ [er, .ref L, .str br])) nT
      exact k _ T L ((s3.trans sU).trans sT) ((s3.trans sU).free nT) nLH (sT _ _ (sU _ _ eL3)) upd_same
end
theorem pe_never {X : Cx} {e : Expr} : PE X e (fun _ _ _ => False) := ⟨fun _ _ _ _ _ _ h => h.elim⟩
/-- comprehensions over zip, as lc_list -/
theorem lc_zip {K : PySem.W.Frag} {a b : Addr} {xs ys : List V} {g : TG} {tt : TT} {te : TE} {vs : List Nat} {σ : L2.St} {H1 : Hp} {D : Addr} {Qd : Hp → Prop} (hl : xs.length = ys.length) (Pv : Nat → Hp → Prop) (h0 : Pv 0 (upd H1 D (.lst []))) (hq : ∀ i H, Pv i H → SqL K H a xs ∧ SqL K H b ys)
    (hs : ∀ i x y T H, xs[i]? = some x → ys[i]? = some y → Pv i H → H T = none → g (.ref T) (wipe σ vs) (upd H T (.tup [x, y])) fun σ2 H2 => wipe σ2 vs = wipe σ vs ∧ tt σ2 H2 fun b H3 =>
      if b = true then te σ2 H3 fun y H4 => ∃ acc, H4 D = some (.lst acc) ∧ acc.length < sizeLine ∧ Pv (i + 1) (upd H4 D (.lst (acc ++ [y]))) else Pv (i + 1) H3) (hd : ∀ H, Pv xs.length H → Qd H) :
    ∃ W : Nat → Nat → Hp → Prop, (∃ m, W 0 m (upd H1 D (.lst []))) ∧ ∀ i m H, W i m H →
      ((Itz K a b).stop i H ∧ Qd H) ∨ ((Itz K a b).go i H ∧ ∃ Nx : Hp → Prop, (∀ H', Nx H' → ∃ m', m' < m ∧ W (i + 1) m' H') ∧ ∀ x H', (Itz K a b).yld i H x H' → g x (wipe σ vs) H' fun σ2 H2 => wipe σ2 vs = wipe σ vs ∧ tt σ2 H2 fun b H3 =>
        if b = true then te σ2 H3 fun y H4 => ∃ acc, H4 D = some (.lst acc) ∧ acc.length < sizeLine ∧ Nx (upd H4 D (.lst (acc ++ [y]))) else Nx H3) := by
  refine ⟨fun i m H => m = xs.length - i ∧ i ≤ xs.length ∧ Pv i H, ⟨xs.length, rfl, Nat.zero_le _, h0⟩, ?_⟩
  rintro i m H ⟨rfl, hi, p⟩
  obtain ⟨q1, q2⟩ := hq i H p
  by_cases hlt : i < xs.length
  · have hlt2 : i < ys.length := by omega
    refine .inr ⟨⟨xs, ys, xs[i], ys[i], q1, q2, List.getElem?_eq_getElem hlt, List.getElem?_eq_getElem hlt2⟩, Pv (i + 1), fun H' p' => ⟨xs.length - (i + 1), by omega, rfl, hlt, p'⟩, ?_⟩
    rintro v H' ⟨T, x, y, rfl, nT, rfl, hx, hy⟩
    exact hs i x y T H (hx xs q1) (hy ys q2) p nT
  · have e : i = xs.length := by omega
    subst e
    exact .inl ⟨⟨xs, ys, q1, q2, .inl (Nat.le_refl _)⟩, hd H p⟩
theorem lc_zipT {K : PySem.W.Frag} {a b : Addr} {xs ys : List V} {g : TG} {tt : TT} {te : TE} {vs : List Nat} {σ : L2.St} {H1 : Hp} {D : Addr} {Qd : Hp → Prop} (hl : xs.length = ys.length) (Pv : Nat → Hp → Prop) (h0 : Pv 0 (upd H1 D (.lst []))) (hq : ∀ i H, Pv i H → SqT K H a xs ∧ SqT K H b ys)
    (hs : ∀ i x y T H, xs[i]? = some x → ys[i]? = some y → Pv i H → H T = none → g (.ref T) (wipe σ vs) (upd H T (.tup [x, y])) fun σ2 H2 => wipe σ2 vs = wipe σ vs ∧ tt σ2 H2 fun b H3 =>
      if b = true then te σ2 H3 fun y H4 => ∃ acc, H4 D = some (.lst acc) ∧ acc.length < sizeLine ∧ Pv (i + 1) (upd H4 D (.lst (acc ++ [y]))) else Pv (i + 1) H3) (hd : ∀ H, Pv xs.length H → Qd H) :
    ∃ W : Nat → Nat → Hp → Prop, (∃ m, W 0 m (upd H1 D (.lst []))) ∧ ∀ i m H, W i m H →
      ((RZ.ItzT K a b).stop i H ∧ Qd H) ∨ ((RZ.ItzT K a b).go i H ∧ ∃ Nx : Hp → Prop, (∀ H', Nx H' → ∃ m', m' < m ∧ W (i + 1) m' H') ∧ ∀ x H', (RZ.ItzT K a b).yld i H x H' → g x (wipe σ vs) H' fun σ2 H2 => wipe σ2 vs = wipe σ vs ∧ tt σ2 H2 fun b H3 =>
        if b = true then te σ2 H3 fun y H4 => ∃ acc, H4 D = some (.lst acc) ∧ acc.length < sizeLine ∧ Nx (upd H4 D (.lst (acc ++ [y]))) else Nx H3) := by
  refine ⟨fun i m H => m = xs.length - i ∧ i ≤ xs.length ∧ Pv i H, ⟨xs.length, rfl, Nat.zero_le _, h0⟩, ?_⟩
  rintro i m H ⟨rfl, hi, p⟩
  obtain ⟨q1, q2⟩ := hq i H p
  by_cases hlt : i < xs.length
  · have hlt2 : i < ys.length := by omega
    refine .inr ⟨⟨xs, ys, xs[i], ys[i], q1, q2, List.getElem?_eq_getElem hlt, List.getElem?_eq_getElem hlt2⟩, Pv (i + 1), fun H' p' => ⟨xs.length - (i + 1), by omega, rfl, hlt, p'⟩, ?_⟩
    rintro v H' ⟨T, x, y, rfl, nT, rfl, hx, hy⟩
    exact hs i x y T H (hx xs q1) (hy ys q2) p nT
  · have e : i = xs.length := by omega
    subst e
    exact .inl ⟨⟨xs, ys, q1, q2, .inl (Nat.le_refl _)⟩, hd H p⟩

/-! ### what is the same -/
def ScI (a : V) : Prop := a = .non ∨ (∃ s : Str, a = .str s) ∨ ∃ i : Int, a = .int i
/-- the same: scalars, or empty lists -/
def Sam0 (H : Hp) (x y : V) : Prop := (ScI x ∧ y = x) ∨ ∃ p q : Addr, x = .ref p ∧ y = .ref q ∧ H p = some (.lst []) ∧ H q = some (.lst [])
def Sam1 (H : Hp) (x y : V) : Prop := ∃ (p q : Addr) (xs ys : List V), x = .ref p ∧ y = .ref q ∧ H p = some (.tup xs) ∧ H q = some (.tup ys) ∧ Paired (Sam0 H) xs ys ∧ xs.length ≤ 100
theorem Sam0.same {H H' : Hp} (s : Same H H') {x y : V} (h : Sam0 H x y) : Sam0 H' x y := by
  rcases h with h | ⟨p, q, h1, h2, h3, h4⟩
  · exact .inl h
  · exact .inr ⟨p, q, h1, h2, s _ _ h3, s _ _ h4⟩
theorem paired_imp {α β : Type} {F G : α → β → Prop} (h : ∀ x y, F x y → G x y) : ∀ {xs : List α} {ys : List β}, Paired F xs ys → Paired G xs ys
  | _, _, .nil => .nil
  | _, _, .cons a r => .cons (h _ _ a) (paired_imp h r)
theorem Sam1.same {H H' : Hp} (s : Same H H') {x y : V} (h : Sam1 H x y) : Sam1 H' x y := by
  obtain ⟨p, q, xs, ys, h1, h2, h3, h4, h5, h6⟩ := h
  exact ⟨p, q, xs, ys, h1, h2, s _ _ h3, s _ _ h4, paired_imp (fun _ _ k => k.same s) h5, h6⟩
theorem paired_at {α β : Type} {F : α → β → Prop} : ∀ {xs : List α} {ys : List β}, Paired F xs ys → ∀ {i : Nat} {x : α} {y : β}, xs[i]? = some x → ys[i]? = some y → F x y
  | _, _, .nil, i, x, y, h, _ => by cases h
  | _, _, .cons r t, 0, x, y, h, k => by
    cases h
    cases k
    exact r
  | _, _, .cons r t, i + 1, x, y, h, k => paired_at t (i := i) h k
def trues (n : Nat) : List V := (List.replicate n true).map V.bl
theorem trues_snoc (n : Nat) : trues n ++ [V.bl true] = trues (n + 1) := by
  unfold trues
  rw [List.replicate_succ', List.map_append]
  rfl
theorem trues_all (n : Nat) : (List.replicate n true).all id = true := by
  rw [List.all_eq_true]
  intro b hb
  exact (List.eq_of_mem_replicate hb)
section
variable {P : Program} {w : World} {K : PySem.W.Frag} {mg : Str → Option Value} {base : Heap}
def sp_law_same00 : Sp := fun vs H Q _ => ∃ a b : V, vs = [a, b] ∧ Sam0 H a b ∧ ∀ H', Same H H' → Q (.bl true) H'
theorem ok_law_same00 {f : Addr} {fd : FuncData} {dvs : List V} (F : Fn K "_law_same" s_law_same00 dvs f fd) (m_all : mg "all" = none) (m_bool : mg "bool" = none) (m_int : mg "int" = none) (m_isinstance : mg "isinstance" = none) (m_len : mg "len" = none) (m_list : mg "list" = none) (m_tuple : mg "tuple" = none) (m_zip : mg "zip" = none) : FnOk P w K mg base CX0 1 f fd ["found", "due"] (sp_law_same00) := by
  refine Fn.okN F sc_law_same00 (fun vs H Q E h => ?_) (fun cdv A outer s H vs Q E hr h => ?_)
  · obtain ⟨_, _, rfl, _⟩ := h
    rfl
  · obtain ⟨a, b, rfl, hs, k⟩ := h
    refine ⟨_, (pss_cons (ps_if (pt_val (pe_callB call_isiT (by rfl) m_isinstance (by decide +kernel) (pa_cons (pv 1) (pa_cons (pe_tup (pa_cons (pe_bltn (v := .ty "list") (by rfl) m_list (by decide +kernel) rfl) (pa_cons (pe_bltn (v := .ty "tuple") (by rfl) m_tuple (by decide +kernel) rfl) pa_nil))) pa_nil))))
          (pss_cons (ps_if (PW.pt (pw_or (pt_cmpR op_ne (pe_callB call_isi (by rfl) m_isinstance (by decide +kernel) (pa_cons (pv 0) (pa_cons (pe_bltn (v := .ty "list") (by rfl) m_list (by decide +kernel) rfl) pa_nil))) (pe_callB call_isi (by rfl) m_isinstance (by decide +kernel) (pa_cons (pv 1) (pa_cons (pe_bltn (v := .ty "list") (by rfl) m_list (by decide +kernel) rfl) pa_nil))) (nomark _)) (pw_or1 (pt_cmpR op_ne (pe_callB call_isi (by rfl) m_isinstance (by decide +kernel) (pa_cons (pv 0) (pa_cons (pe_bltn (v := .ty "tuple") (by rfl) m_tuple (by decide +kernel) rfl) pa_nil))) (pe_callB call_isi (by rfl) m_isinstance (by decide +kernel) (pa_cons (pv 1) (pa_cons (pe_bltn (v := .ty "tuple") (by rfl) m_tuple (by decide +kernel) rfl) pa_nil))) (nomark _)))))
                (pss_one (ps_ret pe_bl))
                pss_nil)
            (pss_one (ps_ret (pe_and (pe_cmpR op_eq (pe_callB call_len_seq (by rfl) m_len PySem.boot_len (pa_cons (pv 0) pa_nil)) (pe_callB call_len_seq (by rfl) m_len PySem.boot_len (pa_cons (pv 1) pa_nil)) (nomark _)) (pe_one (pe_callB (cr_all rfl) (by rfl) m_all (by decide +kernel) (pa_cons (pe_lc (own := [("one", 2), ("two", 3)]) (g := gTup K 2 (gCons (gName 2) (gCons (gName 3) gNil))) (tt := tYes) (by rfl) sc_law_same00.nd (pi_zip (by rfl) m_zip (pa_cons (pv 0) (pa_cons (pv 1) pa_nil))) (blkOk_by (own := [("one", 2), ("two", 3)]) (N := ["found", "due", "one", "two"]) (sc := defScope s_law_same00) (by decide +kernel)) (fun _ _ _ _ _ => (pg_tup rfl (pgs_cons (pg_name (i := 2) sc_law_same00.nd rfl (.inl rfl)) (pgs_cons (pg_name (i := 3) sc_law_same00.nd rfl (.inl rfl)) pgs_nil)))) (fun _ _ _ _ _ => pts_nil) (fun _ _ _ _ _ => pe_never)) pa_nil)))))))
          pss_nil)
      (pss_cons (ps_if (pt_val (pe_callB call_isiT (by rfl) m_isinstance (by decide +kernel) (pa_cons (pv 1) (pa_cons (pe_tup (pa_cons (pe_bltn (v := .ty "bool") (by rfl) m_bool (by decide +kernel) rfl) (pa_cons (pe_bltn (v := .ty "int") (by rfl) m_int (by decide +kernel) rfl) pa_nil))) pa_nil))))
          (pss_one (ps_ret (pe_and (pe_callB call_isi (by rfl) m_isinstance (by decide +kernel) (pa_cons (pv 0) (pa_cons (pe_bltn (v := .ty "int") (by rfl) m_int (by decide +kernel) rfl) pa_nil))) (pe_and (pe_cmpR op_eq (pe_callB call_isi (by rfl) m_isinstance (by decide +kernel) (pa_cons (pv 0) (pa_cons (pe_bltn (v := .ty "bool") (by rfl) m_bool (by decide +kernel) rfl) pa_nil))) (pe_callB call_isi (by rfl) m_isinstance (by decide +kernel) (pa_cons (pv 1) (pa_cons (pe_bltn (v := .ty "bool") (by rfl) m_bool (by decide +kernel) rfl) pa_nil))) (nomark _)) (pe_one (pe_cmpR op_eq (pv 0) (pv 1) (nomark _)))))))
          pss_nil)
      (pss_one (ps_ret (pe_and (pe_cmpR op_is_bl (pe_callB call_isi (by rfl) m_isinstance (by decide +kernel) (pa_cons (pv 0) (pa_cons (pe_bltn (v := .ty "bool") (by rfl) m_bool (by decide +kernel) rfl) pa_nil))) pe_bl (nomark _)) (pe_one (pe_cmpR op_eq (pv 0) (pv 1) (nomark _)))))))), ?_⟩
    rcases hs with ⟨hsc, rfl⟩ | ⟨p, q, rfl, rfl, hp, hq⟩
    · obtain ⟨n, kI, ty, k1, k2, k3, k4⟩ : ∃ (n : String) (kI : Bool), (∀ H, TyX K H b (.type n)) ∧ PySem.W.kitOne K (.type n) (.type "list") = some false ∧ PySem.W.kitOne K (.type n) (.type "tuple") = some false ∧ PySem.W.kitOne K (.type n) (.type "bool") = some false ∧ PySem.W.kitOne K (.type n) (.type "int") = some kI := by
        rcases hsc with rfl | ⟨s, rfl⟩ | ⟨i, rfl⟩
        · exact ⟨"NoneType", false, fun H => .base .non, kit_ty (by decide +kernel), kit_ty (by decide +kernel), kit_ty (by decide +kernel), kit_ty (by decide +kernel)⟩
        · exact ⟨"str", false, fun H => .base (.str s), kit_ty (by decide +kernel), kit_ty (by decide +kernel), kit_ty (by decide +kernel), kit_ty (by decide +kernel)⟩
        · exact ⟨"int", true, fun H => .base (.int i), kit_ty (by decide +kernel), kit_ty (by decide +kernel), kit_ty (by decide +kernel), kit_ty (by decide +kernel)⟩
      have sc : scal b b = true := by rcases hsc with rfl | ⟨s, rfl⟩ | ⟨i, rfl⟩ <;> rfl
      refine ⟨b, rfl, by show 2 ≤ sizeLine; decide, fun T nT => ?_⟩
      have sT := same_new (o := .tup [.ty "list", .ty "tuple"]) nT
      have tT : (upd H T (.tup [.ty "list", .ty "tuple"])) T = some (.tup [.ty "list", .ty "tuple"]) := upd_same
      generalize upd H T (.tup [.ty "list", .ty "tuple"]) = H1 at sT tT ⊢
      refine ⟨b, T, [.ty "list", .ty "tuple"], _, _, false, rfl, tT, .cons (.ty "list") (.cons (.ty "tuple") .nil), ty H1, kitAny_cons (b := false) k1 (fun _ => kitAny_cons (b := false) k2 (fun _ => kitAny_nil) (fun h => Bool.noConfusion h)) (fun h => Bool.noConfusion h), false, rfl, iteF ?_⟩
      refine ⟨b, rfl, by show 2 ≤ sizeLine; decide, fun T2 nT2 => ?_⟩
      have sT2 := same_new (o := .tup [.ty "bool", .ty "int"]) nT2
      have tT2 : (upd H1 T2 (.tup [.ty "bool", .ty "int"])) T2 = some (.tup [.ty "bool", .ty "int"]) := upd_same
      generalize upd H1 T2 (.tup [.ty "bool", .ty "int"]) = H2 at sT2 tT2 ⊢
      have fin : Q (.bl (decide (b = b))) H2 := by
        rw [decide_eq_true rfl]
        exact k H2 (sT.trans sT2)
      cases kI with
      | false =>
        refine ⟨b, T2, [.ty "bool", .ty "int"], _, _, false, rfl, tT2, .cons (.ty "bool") (.cons (.ty "int") .nil), ty H2, kitAny_cons (b := false) k3 (fun _ => kitAny_cons (b := false) k4 (fun _ => kitAny_nil) (fun h => Bool.noConfusion h)) (fun h => Bool.noConfusion h), false, rfl, iteF ?_⟩
        exact ⟨b, rfl, _, _, _, _, false, rfl, .ty "bool", ty H2, k3, _, _, rfl, rfl, true, rfl, iteT ⟨b, rfl, b, rfl, sc, fin⟩⟩
      | true =>
        refine ⟨b, T2, [.ty "bool", .ty "int"], _, _, true, rfl, tT2, .cons (.ty "bool") (.cons (.ty "int") .nil), ty H2, kitAny_cons (b := false) k3 (fun _ => kitAny_cons (b := true) k4 (fun h => Bool.noConfusion h) (fun _ => rfl)) (fun h => Bool.noConfusion h), true, rfl, iteT ?_⟩
        refine ⟨b, rfl, _, _, _, _, true, rfl, .ty "int", ty H2, k4, true, rfl, iteT ?_⟩
        refine ⟨b, rfl, _, _, _, _, false, rfl, .ty "bool", ty H2, k3, b, rfl, _, _, _, _, false, rfl, .ty "bool", ty H2, k3, rfl, true, congrArg V.bl (decide_eq_true rfl), iteT ⟨b, rfl, b, rfl, sc, fin⟩⟩
    · refine ⟨.ref q, rfl, by show 2 ≤ sizeLine; decide, fun T nT => ?_⟩
      have sT := same_new (o := .tup [.ty "list", .ty "tuple"]) nT
      have tT : (upd H T (.tup [.ty "list", .ty "tuple"])) T = some (.tup [.ty "list", .ty "tuple"]) := upd_same
      generalize upd H T (.tup [.ty "list", .ty "tuple"]) = H1 at sT tT ⊢
      have hp1 := sT _ _ hp
      have hq1 := sT _ _ hq
      refine ⟨.ref q, T, [.ty "list", .ty "tuple"], _, _, true, rfl, tT, .cons (.ty "list") (.cons (.ty "tuple") .nil), .base (.lst hq1), kitAny_cons (b := true) (kit_ty (by decide +kernel)) (fun h => Bool.noConfusion h) (fun _ => rfl), true, rfl, iteT ?_⟩
      refine ⟨.ref p, rfl, _, _, _, _, true, rfl, .ty "list", .base (.lst hp1), kit_ty (by decide +kernel), .ref q, rfl, _, _, _, _, true, rfl, .ty "list", .base (.lst hq1), kit_ty (by decide +kernel), rfl, _, rfl, ?_⟩
      rw [decide_eq_true (rfl : (V.bl true : V) = _)]
      refine iteF ⟨.ref p, rfl, _, _, _, _, false, rfl, .ty "tuple", .base (.lst hp1), kit_ty (by decide +kernel), .ref q, rfl, _, _, _, _, false, rfl, .ty "tuple", .base (.lst hq1), kit_ty (by decide +kernel), rfl, _, rfl, ?_⟩
      rw [decide_eq_true (rfl : (V.bl false : V) = _)]
      refine iteF ⟨.ref p, rfl, p, [], rfl, .inl (SqL.of hp1), .ref q, rfl, q, [], rfl, .inl (SqL.of hq1), rfl, true, congrArg V.bl (decide_eq_true rfl), iteT ⟨.ref p, rfl, .ref q, rfl, p, q, [], [], rfl, SqL.of hp1, SqL.of hq1, fun C nC => ?_⟩⟩
      have sC := same_new (o := .lst []) nC
      refine lc_zip (K := K) (a := p) (b := q) (xs := []) (ys := []) (te := fun _ _ _ => False) rfl (fun i H2 => upd H1 C (.lst []) = H2) rfl (fun i H2 h => by rw [← h]; exact ⟨SqL.of (sC _ _ hp1), SqL.of (sC _ _ hq1)⟩) (fun i x y T H2 hx => by cases hx) ?_
      rintro H2 rfl
      exact ⟨C, [], rfl, SqL.of upd_same, k _ (sT.trans sC)⟩
def sp_law_same0 : Sp := fun vs H Q _ => ∃ a b : V, vs = [a, b] ∧ Sam1 H a b ∧ ∀ H', Same H H' → Q (.bl true) H'
theorem ok_law_same0 {f : Addr} {fd : FuncData} {dvs : List V} (F : Fn K "_law_same" s_law_same0 dvs f fd) (O_law_same00 : Own P w K mg base "_law_same" 1 ["found", "due"] [] (sp_law_same00)) (m_all : mg "all" = none) (m_bool : mg "bool" = none) (m_int : mg "int" = none) (m_isinstance : mg "isinstance" = none) (m_len : mg "len" = none) (m_list : mg "list" = none) (m_tuple : mg "tuple" = none) (m_zip : mg "zip" = none) : FnOk P w K mg base CX0 2 f fd ["found", "due"] (sp_law_same0) := by
  refine Fn.okN F sc_law_same0 (fun vs H Q E h => ?_) (fun cdv A outer s H vs Q E hr h => ?_)
  · obtain ⟨_, _, rfl, _⟩ := h
    rfl
  · obtain ⟨a, b, rfl, hs, k⟩ := h
    refine ⟨_, (pss_cons (ps_if (pt_val (pe_callB call_isiT (by rfl) m_isinstance (by decide +kernel) (pa_cons (pv 1) (pa_cons (pe_tup (pa_cons (pe_bltn (v := .ty "list") (by rfl) m_list (by decide +kernel) rfl) (pa_cons (pe_bltn (v := .ty "tuple") (by rfl) m_tuple (by decide +kernel) rfl) pa_nil))) pa_nil))))
          (pss_cons (ps_if (PW.pt (pw_or (pt_cmpR op_ne (pe_callB call_isi (by rfl) m_isinstance (by decide +kernel) (pa_cons (pv 0) (pa_cons (pe_bltn (v := .ty "list") (by rfl) m_list (by decide +kernel) rfl) pa_nil))) (pe_callB call_isi (by rfl) m_isinstance (by decide +kernel) (pa_cons (pv 1) (pa_cons (pe_bltn (v := .ty "list") (by rfl) m_list (by decide +kernel) rfl) pa_nil))) (nomark _)) (pw_or1 (pt_cmpR op_ne (pe_callB call_isi (by rfl) m_isinstance (by decide +kernel) (pa_cons (pv 0) (pa_cons (pe_bltn (v := .ty "tuple") (by rfl) m_tuple (by decide +kernel) rfl) pa_nil))) (pe_callB call_isi (by rfl) m_isinstance (by decide +kernel) (pa_cons (pv 1) (pa_cons (pe_bltn (v := .ty "tuple") (by rfl) m_tuple (by decide +kernel) rfl) pa_nil))) (nomark _)))))
                (pss_one (ps_ret pe_bl))
                pss_nil)
            (pss_one (ps_ret (pe_and (pe_cmpR op_eq (pe_callB call_len_seq (by rfl) m_len PySem.boot_len (pa_cons (pv 0) pa_nil)) (pe_callB call_len_seq (by rfl) m_len PySem.boot_len (pa_cons (pv 1) pa_nil)) (nomark _)) (pe_one (pe_callB (cr_all rfl) (by rfl) m_all (by decide +kernel) (pa_cons (pe_lc (own := [("one", 2), ("two", 3)]) (g := gTup K 2 (gCons (gName 2) (gCons (gName 3) gNil))) (tt := tYes) (by rfl) sc_law_same0.nd (RZ.pi_zipA (by rfl) m_zip (pa_cons (pv 0) (pa_cons (pv 1) pa_nil))) (blkOk_by (own := [("one", 2), ("two", 3)]) (N := ["found", "due", "one", "two"]) (sc := defScope s_law_same0) (by decide +kernel)) (fun _ _ _ _ _ => (pg_tup rfl (pgs_cons (pg_name (i := 2) sc_law_same0.nd rfl (.inl rfl)) (pgs_cons (pg_name (i := 3) sc_law_same0.nd rfl (.inl rfl)) pgs_nil)))) (fun _ _ _ _ _ => pts_nil) (fun _ _ _ _ _ => (pe_own O_law_same00 (hr.mono (by decide)) (by rfl) (pa_cons (pv 2) (pa_cons (pv 3) pa_nil))))) pa_nil)))))))
          pss_nil)
      (pss_cons (ps_if (pt_val (pe_callB call_isiT (by rfl) m_isinstance (by decide +kernel) (pa_cons (pv 1) (pa_cons (pe_tup (pa_cons (pe_bltn (v := .ty "bool") (by rfl) m_bool (by decide +kernel) rfl) (pa_cons (pe_bltn (v := .ty "int") (by rfl) m_int (by decide +kernel) rfl) pa_nil))) pa_nil))))
          (pss_one (ps_ret (pe_and (pe_callB call_isi (by rfl) m_isinstance (by decide +kernel) (pa_cons (pv 0) (pa_cons (pe_bltn (v := .ty "int") (by rfl) m_int (by decide +kernel) rfl) pa_nil))) (pe_and (pe_cmpR op_eq (pe_callB call_isi (by rfl) m_isinstance (by decide +kernel) (pa_cons (pv 0) (pa_cons (pe_bltn (v := .ty "bool") (by rfl) m_bool (by decide +kernel) rfl) pa_nil))) (pe_callB call_isi (by rfl) m_isinstance (by decide +kernel) (pa_cons (pv 1) (pa_cons (pe_bltn (v := .ty "bool") (by rfl) m_bool (by decide +kernel) rfl) pa_nil))) (nomark _)) (pe_one (pe_cmpR op_eq (pv 0) (pv 1) (nomark _)))))))
          pss_nil)
      (pss_one (ps_ret (pe_and (pe_cmpR op_is_bl (pe_callB call_isi (by rfl) m_isinstance (by decide +kernel) (pa_cons (pv 0) (pa_cons (pe_bltn (v := .ty "bool") (by rfl) m_bool (by decide +kernel) rfl) pa_nil))) pe_bl (nomark _)) (pe_one (pe_cmpR op_eq (pv 0) (pv 1) (nomark _)))))))), ?_⟩
    obtain ⟨p, q, xs, ys, rfl, rfl, hp, hq, hpr, hl⟩ := hs
    have hlen : xs.length = ys.length := Paired.length hpr
    refine ⟨.ref q, rfl, by show 2 ≤ sizeLine; decide, fun T nT => ?_⟩
    have sT := same_new (o := .tup [.ty "list", .ty "tuple"]) nT
    have tT : (upd H T (.tup [.ty "list", .ty "tuple"])) T = some (.tup [.ty "list", .ty "tuple"]) := upd_same
    generalize upd H T (.tup [.ty "list", .ty "tuple"]) = H1 at sT tT ⊢
    have hp1 := sT _ _ hp
    have hq1 := sT _ _ hq
    refine ⟨.ref q, T, [.ty "list", .ty "tuple"], _, _, true, rfl, tT, .cons (.ty "list") (.cons (.ty "tuple") .nil), .base (.tup hq1), kitAny_cons (b := false) (kit_ty (by decide +kernel)) (fun _ => kitAny_cons (b := true) (kit_ty (by decide +kernel)) (fun h => Bool.noConfusion h) (fun _ => rfl)) (fun h => Bool.noConfusion h), true, rfl, iteT ?_⟩
    refine ⟨.ref p, rfl, _, _, _, _, false, rfl, .ty "list", .base (.tup hp1), kit_ty (by decide +kernel), .ref q, rfl, _, _, _, _, false, rfl, .ty "list", .base (.tup hq1), kit_ty (by decide +kernel), rfl, _, rfl, ?_⟩
    rw [decide_eq_true (rfl : (V.bl false : V) = _)]
    refine iteF ⟨.ref p, rfl, _, _, _, _, true, rfl, .ty "tuple", .base (.tup hp1), kit_ty (by decide +kernel), .ref q, rfl, _, _, _, _, true, rfl, .ty "tuple", .base (.tup hq1), kit_ty (by decide +kernel), rfl, _, rfl, ?_⟩
    rw [decide_eq_true (rfl : (V.bl true : V) = _)]
    refine iteF ⟨.ref p, rfl, p, xs, rfl, .inr (SqT.of hp1), .ref q, rfl, q, ys, rfl, .inr (SqT.of hq1), rfl, true, congrArg V.bl (decide_eq_true (by rw [hlen])), iteT ⟨.ref p, rfl, .ref q, rfl, p, q, xs, ys, rfl, .inr ⟨SqT.of hp1, SqT.of hq1, fun C nC => ?_⟩⟩⟩
    refine lc_zipT (K := K) (a := p) (b := q) (xs := xs) (ys := ys) hlen (fun i H2 => Same H1 H2 ∧ H2 C = some (.lst (trues i))) ⟨same_new nC, upd_same⟩ (fun i H2 h => ⟨SqT.of (h.1 _ _ hp1), SqT.of (h.1 _ _ hq1)⟩) ?_ ?_
    · rintro i x y T2 H2 hx hy ⟨s2, eC⟩ nT2
      have sT2 := same_new (o := .tup [x, y]) nT2
      refine ⟨T2, [x, y], rfl, SqT.of upd_same, rfl, _, _, rfl, _, _, rfl, rfl, rfl, ?_⟩
      unfold tYes
      show ite (true = true) _ _
      rw [if_pos rfl]
      have hi : i < xs.length := (List.getElem?_eq_some_iff.mp hx).1
      refine ⟨x, rfl, y, rfl, x, y, rfl, (paired_at hpr hx hy).same (sT.trans (s2.trans sT2)), fun H3 s3 => ⟨_, s3 _ _ (sT2 _ _ eC), ?_, fun b o e => ?_, ?_⟩⟩
      · unfold trues
        rw [List.length_map, List.length_replicate]
        exact Nat.lt_of_le_of_lt (show i ≤ 100 by omega) (by decide)
      · rw [upd_ne (ne_of_none e nC)]
        exact s3 _ _ (sT2 _ _ (s2 _ _ e))
      · rw [upd_same, trues_snoc]
    · rintro H2 ⟨s2, eC⟩
      refine ⟨C, List.replicate xs.length true, rfl, SqL.of eC, ?_⟩
      rw [trues_all]
      exact k _ (sT.trans s2)
def sp_law_same : Sp := fun vs H Q _ => ∃ (p q : Addr) (xs ys : List V), vs = [.ref p, .ref q] ∧ H p = some (.lst xs) ∧ H q = some (.lst ys) ∧ Paired (Sam1 H) xs ys ∧ xs.length ≤ 1000 ∧ ∀ H', Same H H' → Q (.bl true) H'
theorem ok_law_same {f : Addr} {fd : FuncData} {dvs : List V} (F : Fn K "_law_same" s_law_same dvs f fd) (O_law_same0 : Own P w K mg base "_law_same" 2 ["found", "due"] [] (sp_law_same0)) (m_all : mg "all" = none) (m_bool : mg "bool" = none) (m_int : mg "int" = none) (m_isinstance : mg "isinstance" = none) (m_len : mg "len" = none) (m_list : mg "list" = none) (m_tuple : mg "tuple" = none) (m_zip : mg "zip" = none) : FnOk P w K mg base CX0 3 f fd ["found", "due"] (sp_law_same) := by
  refine Fn.okN F sc_law_same (fun vs H Q E h => ?_) (fun cdv A outer s H vs Q E hr h => ?_)
  · obtain ⟨_, _, _, _, rfl, _⟩ := h
    rfl
  · obtain ⟨p, q, xs, ys, rfl, hp, hq, hpr, hl, k⟩ := h
    refine ⟨_, (pss_cons (ps_if (pt_val (pe_callB call_isiT (by rfl) m_isinstance (by decide +kernel) (pa_cons (pv 1) (pa_cons (pe_tup (pa_cons (pe_bltn (v := .ty "list") (by rfl) m_list (by decide +kernel) rfl) (pa_cons (pe_bltn (v := .ty "tuple") (by rfl) m_tuple (by decide +kernel) rfl) pa_nil))) pa_nil))))
          (pss_cons (ps_if (PW.pt (pw_or (pt_cmpR op_ne (pe_callB call_isi (by rfl) m_isinstance (by decide +kernel) (pa_cons (pv 0) (pa_cons (pe_bltn (v := .ty "list") (by rfl) m_list (by decide +kernel) rfl) pa_nil))) (pe_callB call_isi (by rfl) m_isinstance (by decide +kernel) (pa_cons (pv 1) (pa_cons (pe_bltn (v := .ty "list") (by rfl) m_list (by decide +kernel) rfl) pa_nil))) (nomark _)) (pw_or1 (pt_cmpR op_ne (pe_callB call_isi (by rfl) m_isinstance (by decide +kernel) (pa_cons (pv 0) (pa_cons (pe_bltn (v := .ty "tuple") (by rfl) m_tuple (by decide +kernel) rfl) pa_nil))) (pe_callB call_isi (by rfl) m_isinstance (by decide +kernel) (pa_cons (pv 1) (pa_cons (pe_bltn (v := .ty "tuple") (by rfl) m_tuple (by decide +kernel) rfl) pa_nil))) (nomark _)))))
                (pss_one (ps_ret pe_bl))
                pss_nil)
            (pss_one (ps_ret (pe_and (pe_cmpR op_eq (pe_callB call_len_seq (by rfl) m_len PySem.boot_len (pa_cons (pv 0) pa_nil)) (pe_callB call_len_seq (by rfl) m_len PySem.boot_len (pa_cons (pv 1) pa_nil)) (nomark _)) (pe_one (pe_callB (cr_all rfl) (by rfl) m_all (by decide +kernel) (pa_cons (pe_lc (own := [("one", 2), ("two", 3)]) (g := gTup K 2 (gCons (gName 2) (gCons (gName 3) gNil))) (tt := tYes) (by rfl) sc_law_same.nd (pi_zip (by rfl) m_zip (pa_cons (pv 0) (pa_cons (pv 1) pa_nil))) (blkOk_by (own := [("one", 2), ("two", 3)]) (N := ["found", "due", "one", "two"]) (sc := defScope s_law_same) (by decide +kernel)) (fun _ _ _ _ _ => (pg_tup rfl (pgs_cons (pg_name (i := 2) sc_law_same.nd rfl (.inl rfl)) (pgs_cons (pg_name (i := 3) sc_law_same.nd rfl (.inl rfl)) pgs_nil)))) (fun _ _ _ _ _ => pts_nil) (fun _ _ _ _ _ => (pe_own O_law_same0 (hr.mono (by decide)) (by rfl) (pa_cons (pv 2) (pa_cons (pv 3) pa_nil))))) pa_nil)))))))
          pss_nil)
      (pss_cons (ps_if (pt_val (pe_callB call_isiT (by rfl) m_isinstance (by decide +kernel) (pa_cons (pv 1) (pa_cons (pe_tup (pa_cons (pe_bltn (v := .ty "bool") (by rfl) m_bool (by decide +kernel) rfl) (pa_cons (pe_bltn (v := .ty "int") (by rfl) m_int (by decide +kernel) rfl) pa_nil))) pa_nil))))
          (pss_one (ps_ret (pe_and (pe_callB call_isi (by rfl) m_isinstance (by decide +kernel) (pa_cons (pv 0) (pa_cons (pe_bltn (v := .ty "int") (by rfl) m_int (by decide +kernel) rfl) pa_nil))) (pe_and (pe_cmpR op_eq (pe_callB call_isi (by rfl) m_isinstance (by decide +kernel) (pa_cons (pv 0) (pa_cons (pe_bltn (v := .ty "bool") (by rfl) m_bool (by decide +kernel) rfl) pa_nil))) (pe_callB call_isi (by rfl) m_isinstance (by decide +kernel) (pa_cons (pv 1) (pa_cons (pe_bltn (v := .ty "bool") (by rfl) m_bool (by decide +kernel) rfl) pa_nil))) (nomark _)) (pe_one (pe_cmpR op_eq (pv 0) (pv 1) (nomark _)))))))
          pss_nil)
      (pss_one (ps_ret (pe_and (pe_cmpR op_is_bl (pe_callB call_isi (by rfl) m_isinstance (by decide +kernel) (pa_cons (pv 0) (pa_cons (pe_bltn (v := .ty "bool") (by rfl) m_bool (by decide +kernel) rfl) pa_nil))) pe_bl (nomark _)) (pe_one (pe_cmpR op_eq (pv 0) (pv 1) (nomark _)))))))), ?_⟩
    have hlen : xs.length = ys.length := Paired.length hpr
    refine ⟨.ref q, rfl, by show 2 ≤ sizeLine; decide, fun T nT => ?_⟩
    have sT := same_new (o := .tup [.ty "list", .ty "tuple"]) nT
    have tT : (upd H T (.tup [.ty "list", .ty "tuple"])) T = some (.tup [.ty "list", .ty "tuple"]) := upd_same
    generalize upd H T (.tup [.ty "list", .ty "tuple"]) = H1 at sT tT ⊢
    have hp1 := sT _ _ hp
    have hq1 := sT _ _ hq
    refine ⟨.ref q, T, [.ty "list", .ty "tuple"], _, _, true, rfl, tT, .cons (.ty "list") (.cons (.ty "tuple") .nil), .base (.lst hq1), kitAny_cons (b := true) (kit_ty (by decide +kernel)) (fun h => Bool.noConfusion h) (fun _ => rfl), true, rfl, iteT ?_⟩
    refine ⟨.ref p, rfl, _, _, _, _, true, rfl, .ty "list", .base (.lst hp1), kit_ty (by decide +kernel), .ref q, rfl, _, _, _, _, true, rfl, .ty "list", .base (.lst hq1), kit_ty (by decide +kernel), rfl, _, rfl, ?_⟩
    rw [decide_eq_true (rfl : (V.bl true : V) = _)]
    refine iteF ⟨.ref p, rfl, _, _, _, _, false, rfl, .ty "tuple", .base (.lst hp1), kit_ty (by decide +kernel), .ref q, rfl, _, _, _, _, false, rfl, .ty "tuple", .base (.lst hq1), kit_ty (by decide +kernel), rfl, _, rfl, ?_⟩
    rw [decide_eq_true (rfl : (V.bl false : V) = _)]
    refine iteF ⟨.ref p, rfl, p, xs, rfl, .inl (SqL.of hp1), .ref q, rfl, q, ys, rfl, .inl (SqL.of hq1), rfl, true, congrArg V.bl (decide_eq_true (by rw [hlen])), iteT ⟨.ref p, rfl, .ref q, rfl, p, q, xs, ys, rfl, SqL.of hp1, SqL.of hq1, fun C nC => ?_⟩⟩
    refine lc_zip (K := K) (a := p) (b := q) (xs := xs) (ys := ys) hlen (fun i H2 => Same H1 H2 ∧ H2 C = some (.lst (trues i))) ⟨same_new nC, upd_same⟩ (fun i H2 h => ⟨SqL.of (h.1 _ _ hp1), SqL.of (h.1 _ _ hq1)⟩) ?_ ?_
    · rintro i x y T2 H2 hx hy ⟨s2, eC⟩ nT2
      have sT2 := same_new (o := .tup [x, y]) nT2
      refine ⟨T2, [x, y], rfl, SqT.of upd_same, rfl, _, _, rfl, _, _, rfl, rfl, rfl, ?_⟩
      unfold tYes
      show ite (true = true) _ _
      rw [if_pos rfl]
      have hi : i < xs.length := (List.getElem?_eq_some_iff.mp hx).1
      refine ⟨x, rfl, y, rfl, x, y, rfl, (paired_at hpr hx hy).same (sT.trans (s2.trans sT2)), fun H3 s3 => ⟨_, s3 _ _ (sT2 _ _ eC), ?_, fun b o e => ?_, ?_⟩⟩
      · unfold trues
        rw [List.length_map, List.length_replicate]
        exact Nat.lt_of_le_of_lt (show i ≤ 1000 by omega) (by decide)
      · rw [upd_ne (ne_of_none e nC)]
        exact s3 _ _ (sT2 _ _ (s2 _ _ e))
      · rw [upd_same, trues_snoc]
    · rintro H2 ⟨s2, eC⟩
      refine ⟨C, List.replicate xs.length true, rfl, SqL.of eC, ?_⟩
      rw [trues_all]
      exact k _ (sT.trans s2)
end

/-! ### the text of parts, and what is due of it -/
def shl (s : Nat) (l : List Nat) : List Nat := if spaces l = true then l else sps s ++ l
def offs (o : Nat) : List NP → List Nat
  | [] => []
  | p :: r => o :: offs (o + p.rows.length) r
theorem offs_len : ∀ (ps : List NP) (o : Nat), (offs o ps).length = ps.length
  | [], _ => rfl
  | _ :: r, _ => congrArg Nat.succ (offs_len r _)
theorem rowsAll_app (a b : List NP) : rowsAll (a ++ b) = rowsAll a ++ rowsAll b := by
  unfold rowsAll
  rw [List.map_append, List.flatten_append]
theorem offs_snoc : ∀ (ps : List NP) (q : NP) (o : Nat), offs o (ps ++ [q]) = offs o ps ++ [o + (rowsAll ps).length]
  | [], q, o => rfl
  | p :: r, q, o => by
    rw [rowsAll_cons, List.length_append]
    show o :: offs (o + p.rows.length) (r ++ [q]) = o :: (offs (o + p.rows.length) r ++ [_])
    rw [offs_snoc r q, Nat.add_assoc]
inductive Due where
  | txt (x : Str)
  | com (src wt : Str) (n i : Int)
  | exa (src wt : Str) (n i : Int) (er : V) (br : Str)
def DueAt (z : Addr) (av : List Addr) (H : Hp) (t : Addr) : Due → Prop
  | .txt x => H t = some (.tup [.str "text", .str x])
  | .com src wt n i => H t = some (.tup [.str "comment", .str src, .str wt, .int n, .int i])
  | .exa src wt n i er br => ∃ L : Addr, H t = some (.tup [.str "example", .str src, .str wt, .int n, .int i, er, .ref L, .str br]) ∧ H L = some (.lst []) ∧ L ≠ z ∧ L ∉ av
def DuesAt (z : Addr) (av : List Addr) (H : Hp) : List Addr → List Due → Prop
  | [], [] => True
  | t :: ts, d :: ds => DueAt z av H t d ∧ DuesAt z av H ts ds
  | _, _ => False
theorem DueAt.keep {z : Addr} {av : List Addr} {H H' : Hp} {xs : List V} (ez : H z = some (.lst xs)) (s : ∀ b o, b ≠ z → H b = some o → H' b = some o) {t : Addr} : ∀ {d : Due}, DueAt z av H t d → DueAt z av H' t d
  | .txt _, h => s _ _ (fun e => by have h' : H t = _ := h; rw [e, ez] at h'; cases h') h
  | .com _ _ _ _, h => s _ _ (fun e => by have h' : H t = _ := h; rw [e, ez] at h'; cases h') h
  | .exa _ _ _ _ _ _, ⟨L, h1, h2, h3⟩ => ⟨L, s _ _ (fun e => by rw [e, ez] at h1; cases h1) h1, s _ _ h3.1 h2, h3⟩
theorem DuesAt.keep {z : Addr} {av : List Addr} {H H' : Hp} {xs : List V} (ez : H z = some (.lst xs)) (s : ∀ b o, b ≠ z → H b = some o → H' b = some o) : ∀ {ts : List Addr} {ds : List Due}, DuesAt z av H ts ds → DuesAt z av H' ts ds
  | [], [], _ => trivial
  | _ :: _, _ :: _, h => ⟨h.1.keep ez s, DuesAt.keep ez s h.2⟩
  | [], _ :: _, h => h.elim
  | _ :: _, [], h => h.elim
theorem DuesAt.snoc {z : Addr} {av : List Addr} {H : Hp} {t : Addr} {d : Due} (h : DueAt z av H t d) : ∀ {ts : List Addr} {ds : List Due}, DuesAt z av H ts ds → DuesAt z av H (ts ++ [t]) (ds ++ [d])
  | [], [], _ => ⟨h, trivial⟩
  | _ :: _, _ :: _, k => ⟨k.1, DuesAt.snoc h k.2⟩
  | [], _ :: _, k => k.elim
  | _ :: _, [], k => k.elim
theorem DuesAt.len {z : Addr} {av : List Addr} {H : Hp} : ∀ {ts : List Addr} {ds : List Due}, DuesAt z av H ts ds → ts.length = ds.length
  | [], [], _ => rfl
  | _ :: _, _ :: _, h => congrArg Nat.succ (DuesAt.len h.2)
  | [], _ :: _, h => h.elim
  | _ :: _, [], h => h.elim
/-- what is due of a part that begins at a place; ls: all lines, e: whether a line feed stands at the end -/
def dueOf (ls : List (List Nat)) (m s : Nat) (e : Bool) (o : Nat) : NP → Due
  | .txt ts => .txt (if (decide (o + ts.length = ls.length) && !e) = true then mk (joinL [] (((ls.drop o).take ts.length).map fun l => l.drop m ++ [10])).dropLast else mk (joinL [] (((ls.drop o).take ts.length).map fun l => l.drop m ++ [10])))
  | .ex true d ss ws => .com (rowsT (ss.map (·.1))) (rowsT ws) ((o : Int) + 1) ((d : Int) + s - m)
  | .ex false d ss ws => .exa (rowsT (ss.map (·.1))) (rowsT ws) ((o : Int) + 1) ((d : Int) + s - m) (optV (errL ws)) (bareLT (ss.map (·.1)))
def duesB (ls : List (List Nat)) (m s : Nat) (e : Bool) (o : Nat) : List NP → List Due
  | [] => []
  | p :: r => dueOf ls m s e o p :: duesB ls m s e (o + p.rows.length) r
theorem duesB_snoc (ls : List (List Nat)) (m s : Nat) (e : Bool) : ∀ (ps : List NP) (q : NP) (o : Nat), duesB ls m s e o (ps ++ [q]) = duesB ls m s e o ps ++ [dueOf ls m s e (o + (rowsAll ps).length) q]
  | [], q, o => rfl
  | p :: r, q, o => by
    rw [rowsAll_cons, List.length_append]
    show dueOf ls m s e o p :: duesB ls m s e (o + p.rows.length) (r ++ [q]) = _
    rw [duesB_snoc ls m s e r q, Nat.add_assoc]
    rfl
def SimAll : List NP → List NP → Prop
  | [], [] => True
  | p :: r, q :: r' => p.sim q ∧ SimAll r r'
  | _, _ => False
theorem SimAll.snoc {p q : NP} (h : p.sim q) : ∀ {ps qs : List NP}, SimAll ps qs → SimAll (ps ++ [p]) (qs ++ [q])
  | [], [], _ => ⟨h, trivial⟩
  | _ :: _, _ :: _, k => ⟨k.1, SimAll.snoc h k.2⟩
  | [], _ :: _, k => k.elim
  | _ :: _, [], k => k.elim
theorem SimAll.len : ∀ {ps qs : List NP}, SimAll ps qs → ps.length = qs.length
  | [], [], _ => rfl
  | _ :: _, _ :: _, k => congrArg Nat.succ (SimAll.len k.2)
  | [], _ :: _, k => k.elim
  | _ :: _, [], k => k.elim
theorem sim_sz : ∀ {p q : NP}, p.sim q → p.Sz → q.Sz
  | .txt a, .txt b, h, z => by
    have e : a = b := h
    rw [← e]
    exact z
  | .ex c d ss ws, .ex c' d' ss' ws', h, z => by
    obtain ⟨rfl, rfl, h3, rfl⟩ := h
    obtain ⟨z1, z2, z3, z4, z5⟩ := z
    have hl := congrArg List.length h3
    rw [List.length_map, List.length_map] at hl
    refine ⟨z1, by omega, fun p hp => ?_, z4, z5⟩
    have h2 : p.1 ∈ ss.map (·.1) := by
      rw [h3]
      exact List.mem_map.mpr ⟨p, hp, rfl⟩
    obtain ⟨q, hq, hq2⟩ := List.mem_map.mp h2
    rw [← hq2]
    exact z3 q hq
  | .txt _, .ex _ _ _ _, h, _ => h.elim
  | .ex _ _ _ _, .txt _, h, _ => h.elim
theorem SeqOk.mem : ∀ {ps : List NP}, SeqOk ps → ∀ p ∈ ps, p.Ok
  | _ :: _, h, p, hp => by
    rcases List.mem_cons.mp hp with rfl | hp
    · exact h.1
    · exact SeqOk.mem h.2.2 p hp
theorem sims_sz : ∀ {ps qs : List NP}, SimAll ps qs → (∀ p ∈ ps, p.Sz) → ∀ q ∈ qs, q.Sz
  | [], [], _, _, _, hq => by cases hq
  | p :: r, q :: r', h, hz, x, hx => by
    rcases List.mem_cons.mp hx with rfl | hx
    · exact sim_sz h.1 (hz p (List.mem_cons_self ..))
    · exact sims_sz h.2 (fun y hy => hz y (List.mem_cons_of_mem _ hy)) x hx
  | [], _ :: _, h, _, _, _ => h.elim
  | _ :: _, [], h, _, _, _ => h.elim
theorem PtAt.more {av : List Addr} {H : Hp} {t a : Addr} (n : H a = none) : ∀ {p : NP}, PtAt av H t p → PtAt (a :: av) H t p
  | .txt _, ⟨L, h1, h2, h3⟩ => ⟨L, h1, h2, fun z => (List.mem_cons.mp z).elim (fun e => by rw [e, n] at h2; cases h2) h3⟩
  | .ex _ _ _ _, ⟨S, W, h1, h2, h3, h4, h5⟩ => ⟨S, W, h1, h2, h3, fun z => (List.mem_cons.mp z).elim (fun e => by rw [e, n] at h2; cases h2) h4, fun z => (List.mem_cons.mp z).elim (fun e => by rw [e, n] at h3; cases h3) h5⟩
theorem PtsAt.more {av : List Addr} {H : Hp} {a : Addr} (n : H a = none) : ∀ {ts : List Addr} {ps : List NP}, PtsAt av H ts ps → PtsAt (a :: av) H ts ps
  | [], [], _ => trivial
  | _ :: _, _ :: _, h => ⟨h.1.more n, PtsAt.more n h.2⟩
  | [], _ :: _, h => h.elim
  | _ :: _, [], h => h.elim
/-- the rows of a part are few and short -/
theorem rows_szL {p : NP} (z : p.Sz) (ok : p.Ok) : p.rows.length ≤ 7 ∧ ∀ l ∈ p.rows, szL 70 l := by
  have oksp : ∀ n, okc (sps n) = true := fun n => by
    unfold okc
    rw [List.all_eq_true]
    intro c hc
    rw [List.eq_of_mem_replicate hc]
    decide
  have okapp : ∀ a b : List Nat, okc a = true → okc b = true → okc (a ++ b) = true := fun a b h1 h2 => by
    unfold okc at h1 h2 ⊢
    rw [List.all_append, h1, h2]
    rfl
  have lsp : ∀ n, (sps n).length = n := fun n => List.length_replicate
  cases p with
  | txt ls =>
    obtain ⟨z1, z2⟩ := z
    exact ⟨by show ls.length ≤ 7; omega, fun l hl => ⟨(z2 l hl).1, by have := (z2 l hl).2; omega⟩⟩
  | ex c d ss ws =>
    obtain ⟨z1, z2, z3, z4, z5⟩ := z
    refine ⟨?_, fun l hl => ?_⟩
    · show (srows d ss ++ ws.map (sps d ++ ·)).length ≤ 7
      rw [List.length_append, srows_len, List.length_map]
      omega
    · rcases List.mem_append.mp (show l ∈ srows d ss ++ ws.map (sps d ++ ·) from hl) with h | h
      · obtain ⟨j, hj, e⟩ := List.getElem_of_mem h
        obtain ⟨p, hp, rfl⟩ := srows_get d (show (srows d ss)[j]? = some l by rw [List.getElem?_eq_getElem hj, e])
        have zp := z3 p hp
        have bk := (ok.2.1 p hp).1
        have hb : okc p.2 = true ∧ p.2.length ≤ 21 := by
          rcases bk with e2 | ⟨_, e2⟩
          · rw [e2]
            refine ⟨?_, by rw [List.length_cons]; have := zp.2; omega⟩
            have := zp.1
            unfold okc at this ⊢
            rw [List.all_cons, this]
            rfl
          · rw [e2]
            exact ⟨rfl, by decide⟩
        have hP : okc (if j = 0 then P3 else D3) = true ∧ (if j = 0 then P3 else D3).length = 3 := by split <;> exact ⟨by decide, rfl⟩
        unfold srow
        refine ⟨okapp _ _ (oksp d) (okapp _ _ hP.1 hb.1), ?_⟩
        rw [List.length_append, List.length_append, lsp, hP.2]
        have := hb.2
        omega
      · obtain ⟨w, hw, rfl⟩ := List.mem_map.mp h
        have zw := z5 w hw
        refine ⟨okapp _ _ (oksp d) zw.1, ?_⟩
        rw [List.length_append, lsp]
        have := zw.2
        omega
theorem rowsAll_sz : ∀ {ps : List NP}, (∀ p ∈ ps, p.Sz ∧ p.Ok) → (rowsAll ps).length ≤ 7 * ps.length ∧ ∀ l ∈ rowsAll ps, szL 70 l
  | [], _ => ⟨Nat.zero_le _, nofun⟩
  | p :: r, h => by
    have ih := rowsAll_sz fun q hq => h q (List.mem_cons_of_mem _ hq)
    have hp := rows_szL (h p (List.mem_cons_self ..)).1 (h p (List.mem_cons_self ..)).2
    rw [rowsAll_cons, List.length_append, List.length_cons]
    refine ⟨by have := ih.1; have := hp.1; omega, fun l hl => ?_⟩
    rcases List.mem_append.mp hl with h | h
    · exact hp.2 l h
    · exact ih.2 l h
theorem mulOk_nl0 : MulOk "\n" 0 := by
  refine ⟨?_, fun h1 _ => ?_, fun h1 _ => ?_⟩
  · rfl
  · exact absurd h1 (by decide)
  · exact absurd h1 (by decide)
theorem mulOk_nl1 : MulOk "\n" 1 := by
  refine ⟨?_, fun _ h2 => ?_, fun _ h2 => ?_⟩
  · rfl
  · decide +kernel
  · decide +kernel
theorem offs_get : ∀ (ns : List NP) (o i : Nat) (q : NP), ns[i]? = some q → (offs o ns)[i]? = some (o + (rowsAll (ns.take i)).length)
  | _ :: r, o, 0, q, h => rfl
  | p :: r, o, i + 1, q, h => by
    have ih := offs_get r (o + p.rows.length) i q h
    show (offs (o + p.rows.length) r)[i]? = _
    rw [ih, List.take_succ_cons, rowsAll_cons, List.length_append, Nat.add_assoc]
theorem rows_fit {ns : List NP} {i : Nat} {q : NP} (h : ns[i]? = some q) : (rowsAll (ns.take i)).length + q.rows.length ≤ (rowsAll ns).length := by
  have hi : i < ns.length := (List.getElem?_eq_some_iff.mp h).1
  have e : ns = ns.take i ++ (q :: ns.drop (i + 1)) := by
    have e1 := (List.take_append_drop i ns).symm
    rw [List.drop_eq_getElem_cons hi] at e1
    rw [List.getElem?_eq_getElem hi] at h
    rw [Option.some.inj h] at e1
    exact e1
  have e2 : (rowsAll ns).length = (rowsAll (ns.take i ++ (q :: ns.drop (i + 1)))).length := congrArg (fun z => (rowsAll z).length) e
  rw [rowsAll_app, List.length_append, rowsAll_cons, List.length_append] at e2
  omega
theorem SimAll.get : ∀ {ps qs : List NP} {i : Nat} {p : NP}, SimAll ps qs → ps[i]? = some p → ∃ q, qs[i]? = some q ∧ p.sim q
  | _ :: _, _ :: _, 0, p, h, e => by
    cases e
    exact ⟨_, rfl, h.1⟩
  | _ :: _, _ :: _, i + 1, p, h, e => SimAll.get (i := i) h.2 e
  | [], _, _, _, _, e => by cases e
  | _ :: _, [], _, _, h, _ => h.elim
theorem flat_le {b : Nat} {ls : List (List Nat)} (h : ∀ l ∈ ls, l.length ≤ b) : ((ls.map mk).map (·.length)).sum + (ls.map mk).length * ("" : Str).length ≤ ls.length * b := by
  have e0 : ("" : Str).length = 0 := by decide +kernel
  rw [e0, Nat.mul_zero, List.map_map]
  have := sum_le_of h
  show (ls.map (·.length)).sum + 0 ≤ _
  omega
theorem join_flat (ls : List (List Nat)) : Txt.join "" (ls.map mk) = mk (joinL [] ls) := by
  have e0 : ("" : Str) = mk [] := ext_tl (by decide +kernel)
  rw [e0, join_mk]
theorem joinL_flatten : ∀ xs : List (List Nat), joinL [] xs = xs.flatten
  | [] => rfl
  | a :: r => by rw [joinL_flat, joinL_flatten r, List.flatten_cons]
theorem cut_last (l : List Nat) : cutS (mk l) none (some (-1 : Int)) = mk l.dropLast := by
  refine ext_tl ?_
  show (l.drop (HT.sIx (mk l).length 0 none)).take (HT.sIx (mk l).length (mk l).length (some (-1 : Int)) - HT.sIx (mk l).length 0 none) = l.dropLast
  rw [HT.sIx_none, List.drop_zero, Nat.sub_zero, List.dropLast_eq_take, mk_len]
  show l.take (if (-1 : Int) < 0 then ((-1 : Int) + (l.length : Int)).toNat else min (-1 : Int).toNat l.length) = _
  rw [if_pos (by decide)]
  congr 1
  omega
/-- whether a line feed has to stand at the end -/
def EndOk (ls : List (List Nat)) (e : Bool) : Prop := (ls = [] → e = false) ∧ (e = false → ∀ l', ls.getLast? = some l' → spaces l' = false)
def endL (e : Bool) : List Nat := if e = true then [10] else []
theorem shl_sz {s b : Nat} {l : List Nat} (h : szL b l) : szL (s + b) (shl s l) := by
  unfold shl
  split
  · exact ⟨h.1, by have := h.2; omega⟩
  · refine ⟨?_, ?_⟩
    · have h1 := h.1
      unfold okc at h1 ⊢
      rw [List.all_append, h1, Bool.and_true, List.all_eq_true]
      intro c hc
      rw [List.eq_of_mem_replicate hc]
      decide
    · rw [List.length_append]
      have : (sps s).length = s := List.length_replicate
      have := h.2
      omega
section
variable {P : Program} {w : World} {K : PySem.W.Frag} {mg : Str → Option Value} {base : Heap}
def sp_law_written : Sp := fun vs H Q _ => ∃ (D A B p : Addr) (n : Int) (s : Nat) (ps : List NP) (ts : List Addr), vs = [.ref D, .ref p, .int (s : Int)] ∧ Drw H D A B n ∧ n < 600000 ∧ s ≤ 16 ∧ H p = some (.lst (ts.map V.ref)) ∧ p ∉ [D, A, B] ∧ PtsAt [D, A, B] H ts ps ∧ DrawnOk ps ∧
  ∀ (ns : List NP) (e : Bool) (T E : Addr) (us : List Addr) (m : Int) (H' : Hp), SimAll ps ns → (∀ q ∈ ns, q.Ok) → EndOk ((rowsAll ns).map (shl s)) e →
    H' T = some (.tup [.str (mk (joinL [10] ((rowsAll ns).map (shl s)) ++ endL e)), .ref E]) → H T = none → H' E = some (.lst (us.map V.ref)) → H E = none →
    DuesAt E [D, A] H' us (duesB ((rowsAll ns).map (shl s)) (leastN (leads ((rowsAll ns).map (shl s)))) s e 0 ns) → Drw H' D A B m → m ≤ n + 30 → Kept D A H H' → Q (.ref T) H'
theorem ok_law_written {f : Addr} {fd : FuncData} {dvs : List V} (F : Fn K "_law_written" s_law_written dvs f fd) (O_law_part_lines : Own P w K mg base "_law_part_lines" 3 ["draws", "part"] [] (sp_law_part_lines)) (O_law_take : Own P w K mg base "_law_take" 2 ["draws", "size"] [] (sp_law_take)) (O_law_error : Own P w K mg base "_law_error" 1 ["lines"] [] (sp_law_error)) (O_law_bare_lines : Own P w K mg base "_law_bare_lines" 1 ["lines"] [] (sp_law_bare_lines)) (m_int : mg "int" = none) (m_len : mg "len" = none) (m_min : mg "min" = none) (m_zip : mg "zip" = none) : FnOk P w K mg base CX0 4 f fd ["draws", "parts", "shift"] (sp_law_written) := by
  refine Fn.okN F sc_law_written (fun vs H Q E h => ?_) (fun cdv A outer s H vs Q E hr h => ?_)
  · obtain ⟨_, _, _, _, _, _, _, _, rfl, _⟩ := h
    rfl
  · obtain ⟨D, A1, B, p, n, s, ps, ts, rfl, dr, hn, hs, ep, hp, hpt, hdo, k⟩ := h
    refine ⟨_, (pss_cons (ps_par (i := 3) (j := 4) (by rfl) sc_law_written.nd rfl rfl (by decide) rfl rfl (pa_cons (pe_lst pa_nil) (pa_cons (pe_lst pa_nil) pa_nil)) (by rfl))
      (pss_cons (ps_for PassesOwn.never rfl (pi_list (pv 1)) (pg_name (i := 5) sc_law_written.nd rfl (.inl rfl))
          (pss_cons (ps_expr (pe_bm PySem.F.plainAttrs_list PySem.F.slot_list_append PySem.F.type_list_append mt_append (pv 4) (pa_cons (pe_callB call_len_seq (by rfl) m_len PySem.boot_len (pa_cons (pv 3) pa_nil)) pa_nil)))
            (pss_one (ps_expr (pe_bm PySem.F.plainAttrs_list PySem.F.slot_list_extend PySem.F.type_list_extend mt_extend (pv 3) (pa_cons (pe_own O_law_part_lines (hr.mono (by decide)) (by rfl) (pa_cons (pv 0) (pa_cons (pv 5) pa_nil))) pa_nil))))))
      (pss_cons (ps_setLc (i := 3) (own := [("each", 16)]) (g := gName 16) (tt := tYes) (by rfl) sc_law_written.nd rfl rfl (sw_true rfl rfl rfl (by decide +kernel)) (pi_list (pv 3)) (blkOk_by (own := [("each", 16)]) (N := ["draws", "parts", "shift", "lines", "begins_v", "part", "indents", "least", "due", "end", "begin", "text", "is_last", "source", "want", "found", "each"]) (sc := defScope s_law_written) (by decide +kernel)) (fun _ _ _ _ _ => (pg_name (i := 16) sc_law_written.nd rfl (.inl rfl))) (fun _ _ _ _ _ => pts_nil) (fun _ _ _ _ _ => (pe_ifExp (pt_cmpR op_ne (pe_m1 PySem.F.slot_str_strip PySem.F.type_str_strip mt_stripChars (pv 16) pe_str) pe_str (nomark _)) (pe_op op_add_str (pe_op op_repS pe_str (pv 2)) (pv 16)) (pv 16))))
      (pss_cons (ps_setLc (i := 6) (own := [("each", 16)]) (g := gName 16) (by rfl) sc_law_written.nd rfl rfl (sw_true rfl rfl rfl (by decide +kernel)) (pi_list (pv 3)) (blkOk_by (own := [("each", 16)]) (N := ["draws", "parts", "shift", "lines", "begins_v", "part", "indents", "least", "due", "end", "begin", "text", "is_last", "source", "want", "found", "each"]) (sc := defScope s_law_written) (by decide +kernel)) (fun _ _ _ _ _ => (pg_name (i := 16) sc_law_written.nd rfl (.inl rfl))) (fun _ _ _ _ _ => (pts_one (pt_cmpR op_ne (pe_m1 PySem.F.slot_str_strip PySem.F.type_str_strip mt_stripChars (pv 16) pe_str) pe_str (nomark _)))) (fun _ _ _ _ _ => (pe_op op_sub (pe_callB call_len_str (by rfl) m_len PySem.boot_len (pa_cons (pv 16) pa_nil)) (pe_callB call_len_str (by rfl) m_len PySem.boot_len (pa_cons (pe_m1 PySem.F.slot_str_lstrip PySem.F.type_str_lstrip mt_lstripChars (pv 16) pe_str) pa_nil)))))
      (pss_cons (ps_asg (pe_tup (pa_cons (pe_op op_mul (pe_callB (cr_min rfl) (by rfl) m_min (by decide +kernel) (pa_cons (pe_op op_cat (pv 6) (pe_lst (pa_cons pe_int pa_nil))) pa_nil)) (pe_callTy call_int1 (by rfl) m_int (by decide +kernel) (pa_cons (pe_cmpR (op_neD hr.units) (pv 6) (pe_lst pa_nil) (nomark _)) pa_nil))) (pa_cons (pe_lst pa_nil) pa_nil))) (pg_tup rfl (pgs_cons (pg_name (i := 7) sc_law_written.nd rfl (.inr rfl)) (pgs_cons (pg_name (i := 8) sc_law_written.nd rfl (.inl rfl)) pgs_nil))))
      (pss_cut (ps_set (i := 9) sc_law_written.nd rfl (.inl rfl) (pe_op op_repS pe_str (pe_callTy call_int1 (by rfl) m_int (by decide +kernel) (pa_cons (pe_and (pe_cmpR (op_neD hr.units) (pv 3) (pe_lst pa_nil) (nomark _)) (pe_one (pe_or (pe_cmpR op_eq (pe_m1 PySem.F.slot_str_strip PySem.F.type_str_strip mt_stripChars (pe_ix ix_list (pv 3) (pe_un un_neg pe_int) (fun _ _ => rfl)) pe_str) pe_str (nomark _)) (pe_one (pe_cmpR op_eq (pe_own O_law_take (hr.mono (by decide)) (by rfl) (pa_cons (pv 0) (pa_cons pe_int pa_nil))) pe_int (nomark _)))))) pa_nil))))
      (pss_cons (ps_for PassesOwn.never rfl (pi_zip (by rfl) m_zip (pa_cons (pv 1) (pa_cons (pv 4) pa_nil))) (pg_tup rfl (pgs_cons (pg_name (i := 5) sc_law_written.nd rfl (.inl rfl)) (pgs_cons (pg_name (i := 10) sc_law_written.nd rfl (.inl rfl)) pgs_nil)))
          (pss_cons (ps_if (pt_cmpR op_eq (pe_ix ix_tup (pv 5) pe_int (fun _ _ => rfl)) pe_str (nomark _))
                (pss_cons (ps_set (i := 11) sc_law_written.nd rfl (.inl rfl) (pe_m1 PySem.F.slot_str_join PySem.F.type_str_join mt_join pe_str (pe_lc (own := [("each", 16)]) (g := gName 16) (tt := tYes) (by rfl) sc_law_written.nd (pi_list (pe_slice sl_list (pv 3) (po_some (pv 10)) (po_some (pe_op op_add (pv 10) (pe_callB call_len_seq (by rfl) m_len PySem.boot_len (pa_cons (pe_ix ix_tup (pv 5) pe_int (fun _ _ => rfl)) pa_nil)))))) (blkOk_by (own := [("each", 16)]) (N := ["draws", "parts", "shift", "lines", "begins_v", "part", "indents", "least", "due", "end", "begin", "text", "is_last", "source", "want", "found", "each"]) (sc := defScope s_law_written) (by decide +kernel)) (fun _ _ _ _ _ => (pg_name (i := 16) sc_law_written.nd rfl (.inl rfl))) (fun _ _ _ _ _ => pts_nil) (fun _ _ _ _ _ => (pe_op op_add_str (pe_slice sl_str (pv 16) (po_some (pv 7)) po_none) pe_str)))))
                  (pss_cons (ps_set (i := 12) sc_law_written.nd rfl (.inl rfl) (pe_cmpR op_eq (pe_op op_add (pv 10) (pe_callB call_len_seq (by rfl) m_len PySem.boot_len (pa_cons (pe_ix ix_tup (pv 5) pe_int (fun _ _ => rfl)) pa_nil))) (pe_callB call_len_seq (by rfl) m_len PySem.boot_len (pa_cons (pv 3) pa_nil)) (nomark _)))
                  (pss_cons (ps_expr (pe_bm PySem.F.plainAttrs_list PySem.F.slot_list_append PySem.F.type_list_append mt_append (pv 8) (pa_cons (pe_tup (pa_cons pe_str (pa_cons (pe_ifExp (PW.pt (pw_and (pt_val (pv 12)) (pw_and1 (pt_cmpR op_eq (pv 9) pe_str (nomark _))))) (pe_slice sl_str (pv 11) po_none (po_some (pe_un un_neg pe_int))) (pv 11)) pa_nil))) pa_nil)))
                  (pss_one ps_continue))))
                pss_nil)
            (pss_cons (ps_par (i := 13) (j := 14) (by rfl) sc_law_written.nd rfl rfl (by decide) rfl rfl (pa_cons (pe_m1 PySem.F.slot_str_join PySem.F.type_str_join mt_join pe_str (pe_lc (own := [("each", 16)]) (g := gName 16) (tt := tYes) (by rfl) sc_law_written.nd (pi_list (pe_ix ix_tup (pv 5) pe_int (fun _ _ => rfl))) (blkOk_by (own := [("each", 16)]) (N := ["draws", "parts", "shift", "lines", "begins_v", "part", "indents", "least", "due", "end", "begin", "text", "is_last", "source", "want", "found", "each"]) (sc := defScope s_law_written) (by decide +kernel)) (fun _ _ _ _ _ => (pg_name (i := 16) sc_law_written.nd rfl (.inl rfl))) (fun _ _ _ _ _ => pts_nil) (fun _ _ _ _ _ => (pe_op op_add_str (pv 16) pe_str)))) (pa_cons (pe_m1 PySem.F.slot_str_join PySem.F.type_str_join mt_join pe_str (pe_lc (own := [("each", 16)]) (g := gName 16) (tt := tYes) (by rfl) sc_law_written.nd (pi_list (pe_ix ix_tup (pv 5) pe_int (fun _ _ => rfl))) (blkOk_by (own := [("each", 16)]) (N := ["draws", "parts", "shift", "lines", "begins_v", "part", "indents", "least", "due", "end", "begin", "text", "is_last", "source", "want", "found", "each"]) (sc := defScope s_law_written) (by decide +kernel)) (fun _ _ _ _ _ => (pg_name (i := 16) sc_law_written.nd rfl (.inl rfl))) (fun _ _ _ _ _ => pts_nil) (fun _ _ _ _ _ => (pe_op op_add_str (pv 16) pe_str)))) pa_nil)) (by rfl))
            (pss_cons (ps_set (i := 15) sc_law_written.nd rfl (.inl rfl) (pe_tup (pa_cons (pe_ix ix_tup (pv 5) pe_int (fun _ _ => rfl)) (pa_cons (pv 13) (pa_cons (pv 14) (pa_cons (pe_op op_add (pv 10) pe_int) (pa_cons (pe_op op_sub (pe_op op_add (pe_ix ix_tup (pv 5) pe_int (fun _ _ => rfl)) (pv 2)) (pv 7)) pa_nil)))))))
            (pss_one (ps_expr (pe_bm PySem.F.plainAttrs_list PySem.F.slot_list_append PySem.F.type_list_append mt_append (pv 8) (pa_cons (pe_op op_catT (pv 15) (pe_ifExp (pt_cmpR op_eq (pe_ix ix_tup (pv 5) pe_int (fun _ _ => rfl)) pe_str (nomark _)) (pe_tup (pa_cons (pe_own O_law_error (hr.mono (by decide)) (by rfl) (pa_cons (pe_ix ix_tup (pv 5) pe_int (fun _ _ => rfl)) pa_nil)) (pa_cons (pe_lst pa_nil) (pa_cons (pe_own O_law_bare_lines (hr.mono (by decide)) (by rfl) (pa_cons (pe_ix ix_tup (pv 5) pe_int (fun _ _ => rfl)) pa_nil)) pa_nil)))) (pe_tup pa_nil))) pa_nil))))))))
      (pss_one (ps_ret (pe_tup (pa_cons (pe_op op_add_str (pe_m1 PySem.F.slot_str_join PySem.F.type_str_join mt_join pe_str (pv 3)) (pv 9)) (pa_cons (pv 8) pa_nil)))))))))))), ?_⟩
    obtain ⟨hseq, hsz0, h7⟩ := hdo
    have hsz := fun p h => (hsz0 p h).1
    have lt := hpt.len
    refine ⟨by show 0 ≤ sizeLine; decide, fun L nL => ⟨by show 0 ≤ sizeLine; decide, fun G nG => ⟨_, _, rfl, ?_⟩⟩⟩
    have sL := same_new (o := .lst []) nL
    have eL : (upd H L (.lst [])) L = some (rowsV []) := upd_same
    have sG := same_new (o := .lst []) nG
    have eG : (upd (upd H L (.lst [])) G (.lst [])) G = some (.lst (natV [])) := upd_same
    have eL1 := sG _ _ eL
    have s1 := sL.trans sG
    have nGH : H G = none := sL.free nG
    have GL : G ≠ L := (ne_of_none eL nG).symm
    generalize upd (upd H L (.lst [])) G (.lst []) = H1 at eG eL1 s1 ⊢
    have LD := fresh_ne dr nL
    have GD := fresh_ne dr nGH
    have LB : L ≠ B := by
      obtain ⟨_, _, ⟨_, eB⟩⟩ := dr.tracked
      exact (ne_of_none eB nL).symm
    have GB : G ≠ B := by
      obtain ⟨_, _, ⟨_, eB⟩⟩ := dr.tracked
      exact (ne_of_none eB nGH).symm
    have pD : p ≠ D ∧ p ≠ A1 := by simp at hp; exact ⟨hp.1, hp.2.1⟩
    clear sL sG eL
    have d1 := dr.same s1
    have hpt2 : PtsAt [G, L, D, A1, B] H ts ps := (hpt.more nL).more nGH
    refine ⟨.ref p, rfl, p, rfl, ⟨_, SqL.of (s1 _ _ ep)⟩, for_list (K := K) (a := p) (xs := ts.map V.ref) (fun i σ H2 => ∃ (ns : List NP) (m : Int) (v5 : Option V), σ = [some (.ref D), some (.ref p), some (.int (s : Int)), some (.ref L), some (.ref G), v5, none, none, none, none, none, none, none, none, none, none, none] ∧ H2 L = some (rowsV (rowsAll ns)) ∧ H2 G = some (.lst (natV (offs 0 ns))) ∧ SimAll (ps.take i) ns ∧ (∀ q ∈ ns, q.Ok) ∧ Drw H2 D A1 B m ∧ m ≤ n + 3 * i ∧ Kept D A1 H H2) ⟨[], n, none, rfl, eL1, eG, trivial, nofun, d1, by omega, Kept.of s1⟩ (fun i σ H2 _ h => by
      obtain ⟨_, _, _, _, _, _, _, _, _, _, k2⟩ := h
      exact SqL.of (k2 _ _ ep pD.1 pD.2)) ?_ ?_⟩
    · rintro i v σ H2 hv ⟨ns, m, v5, rfl, eL2, eG2, hsim, hok, d2, hm, k2⟩
      rw [List.getElem?_map] at hv
      obtain ⟨t, ht, rfl⟩ := Option.map_eq_some_iff.mp hv
      obtain ⟨q, hq, hqt⟩ := (hpt2.keep (KeepT.kept dr k2 (by simp) (by simp))).get ht
      have hi : i < ps.length := (List.getElem?_eq_some_iff.mp hq).1
      have hqm := List.mem_of_getElem? hq
      have lns : ns.length = i := by
        have := hsim.len
        rw [List.length_take] at this
        omega
      have hnz : ∀ q ∈ ns, q.Sz ∧ q.Ok := fun q' hq' => ⟨sims_sz hsim (fun a ha => hsz a (List.mem_of_mem_take ha)) q' hq', hok q' hq'⟩
      have rz := rowsAll_sz hnz
      refine ⟨.ref G, rfl, .inl ⟨rfl, _, SqL.of eG2⟩, .ref L, rfl, L, _, rfl, .inl (SqL.of eL2), G, _, _, rfl, rfl, eG2, ?_, .ref L, rfl, .inl ⟨rfl, _, SqL.of ((upd_ne GL.symm).trans eL2)⟩, .ref D, rfl, .ref t, rfl, D, A1, B, t, m, q, rfl, d2.upd GD.1 GD.2 GB, by omega, ?_, hsz q hqm, ?_, fun q' r m' H3 hsim' hok' er hr d3 hm' k3 => ?_⟩
      · unfold natV
        rw [List.length_map, List.length_map, offs_len]
        exact Nat.lt_of_le_of_lt (show ns.length ≤ 10 by omega) (by decide)
      · exact (hqt.keep (KeepT.upd eG2 (by simp))).weak (by simp)
      · exact SeqOk.mem hseq q hqm
      · have eL3 := k3 _ _ (show (upd H2 G (.lst (natV (offs 0 ns) ++ [.int ((((rowsAll ns).map mk).map V.str).length : Nat)]))) L = some (rowsV (rowsAll ns)) by rw [upd_ne GL.symm]; exact eL2) LD.1 LD.2
        have eG3 := k3 _ _ (upd_same (H := H2) (a := G) (o := .lst (natV (offs 0 ns) ++ [.int ((((rowsAll ns).map mk).map V.str).length : Nat)]))) GD.1 GD.2
        have rq := rows_szL (sim_sz hsim' (hsz q hqm)) hok'
        refine ⟨L, r, _, _, rfl, rfl, eL3, er, ?_, ns ++ [q'], m', _, rfl, ?_, ?_, ?_, fun x hx => ?_, d3.upd LD.1 LD.2 LB, by push_cast; omega, fun b o e n1 n2 => ?_⟩
        · rw [rowsV_len, rowsV_len]
          exact Nat.le_trans (show (rowsAll ns).length + q'.rows.length ≤ 100 by have := rz.1; have := rq.1; omega) (by decide)
        · rw [upd_same, rowsAll_app]
          show _ = some (rowsV (rowsAll ns ++ (q'.rows ++ [])))
          rw [List.append_nil]
          unfold rowsV
          rw [List.map_append, List.map_append]
        · rw [upd_ne GL, eG3, offs_snoc, natV_app, rowsV_len, Nat.zero_add]
          rfl
        · rw [List.take_add_one, hq]
          exact SimAll.snoc hsim' hsim
        · rcases List.mem_append.mp hx with h | h
          · exact hok x h
          · rw [List.mem_singleton.mp h]
            exact hok'
        · rw [upd_ne (ne_of_none e nL)]
          refine k3 _ _ ?_ n1 n2
          rw [upd_ne (ne_of_none e nGH)]
          exact k2 _ _ e n1 n2
    · rintro σ H2 ⟨ns, m, v5, rfl, eL2, eG2, hsim, hok, d2, hm, k2⟩
      rw [List.length_map, lt] at hsim hm
      rw [List.take_length] at hsim
      have hnz : ∀ q ∈ ns, q.Sz ∧ q.Ok := fun q' hq' => ⟨sims_sz hsim hsz q' hq', hok q' hq'⟩
      have lns := hsim.len
      obtain ⟨rz1, rz2⟩ := rowsAll_sz hnz
      have kt2 : KeepT [G, L, D, A1, B] H H2 := KeepT.kept dr k2 (by simp) (by simp)
      have hpt3 := hpt2.keep kt2
      have ep2 := k2 _ _ ep pD.1 pD.2
      generalize hR : rowsAll ns = R at eL2 rz1 rz2
      -- moved to the right
      refine ⟨.ref L, rfl, L, rfl, ⟨_, SqL.of eL2⟩, fun C nC => lc_list (K := K) (a := L) (xs := (R.map mk).map V.str) (fun i H3 => H3 C = some (rowsV ((R.take i).map (shl s))) ∧ Same H2 H3) ⟨upd_same, same_new nC⟩ (fun i H3 _ h => SqL.of (h.2 _ _ eL2)) ?_ ?_⟩
      · rintro i v H3 hv ⟨eC, s3⟩
        obtain ⟨z, rfl, hz⟩ := str_at hv
        rw [List.getElem?_map] at hz
        obtain ⟨l, hl, rfl⟩ := Option.map_eq_some_iff.mp hz
        have zl := rz2 l (List.mem_of_getElem? hl)
        have ll := zl.2
        refine ⟨rfl, ?_⟩
        unfold tYes
        show ite (true = true) _ _
        rw [if_pos rfl]
        refine ⟨.str (mk l), rfl, ⟨_, rfl⟩, mk l, " ", rfl, rfl, by rw [mk_len]; exact line_of (by omega), rfl, _, rfl, ?_⟩
        rw [strip_test]
        have fin : ∀ (l' : List Nat), l' = shl s l → ∃ acc, H3 C = some (.lst acc) ∧ acc.length < sizeLine ∧ (upd H3 C (.lst (acc ++ [.str (mk l')]))) C = some (rowsV ((R.take (i + 1)).map (shl s))) ∧ Same H2 (upd H3 C (.lst (acc ++ [.str (mk l')]))) := fun l' e' => by
          refine ⟨_, eC, ?_, ?_, fun b o e => ?_⟩
          · rw [rowsV_len, List.length_map, List.length_take]
            exact Nat.lt_of_le_of_lt (show min i R.length ≤ 100 by omega) (by decide)
          · rw [upd_same, List.take_add_one, hl, List.map_append, e']
            exact congrArg some (rowsV_snoc _ (mk (shl s l)))
          · rw [upd_ne (ne_of_none e nC)]
            exact s3 b o e
        show ite ((!spaces l) = true) _ _
        cases hsp : spaces l with
        | true =>
          refine iteF ⟨.str (mk l), rfl, ?_⟩
          exact fin l (by unfold shl; rw [hsp, if_pos rfl])
        | false =>
          have e1 : Txt.mul " " (s : Int) ++ mk l = mk (sps s ++ l) := ext_tl (by
            rw [tl_append, mul_sps]
            rfl)
          have e2 := congrArg Str.length e1
          have ls : (sps s).length = s := List.length_replicate
          rw [app_len, mk_len (sps s ++ l), List.length_append, ls] at e2
          refine iteT ⟨.int (s : Int), rfl, " ", (s : Int), rfl, rfl, mulOk_sp (by omega), .str (mk l), rfl, _, _, rfl, rfl, by rw [e2]; exact line_of (by omega), ?_⟩
          rw [e1]
          exact fin (sps s ++ l) (by unfold shl; rw [hsp, if_neg Bool.false_ne_true])
      · rintro H3 ⟨eC, s3⟩
        rw [rowsV_len, List.take_length] at eC
        have rz3 : ∀ l ∈ R.map (shl s), szL 90 l := fun l hl => by
          obtain ⟨l', h', rfl⟩ := List.mem_map.mp hl
          have h := shl_sz (s := s) (rz2 l' h')
          exact ⟨h.1, by have := h.2; omega⟩
        have rl : (R.map (shl s)).length ≤ 49 := by
          rw [List.length_map]
          omega
        have d3 := d2.same s3
        have kt3 : KeepT [G, L, D, A1, B] H H3 := kt2.trans (KeepT.of s3)
        have k3 : Kept D A1 H H3 := k2.trans (Kept.of s3)
        have eG3 := s3 _ _ eG2
        have ep3 := s3 _ _ ep2
        have nCH : H C = none := k2.free nC (fresh_ne d2 nC).1 (fresh_ne d2 nC).2
        generalize hR1 : R.map (shl s) = R1 at eC rz3 rl
        clear eL2 eG2 ep2 hpt3 s3
        -- the indents
        refine ⟨.ref C, rfl, C, rfl, ⟨_, SqL.of eC⟩, fun I nI => lc_list (K := K) (a := C) (xs := (R1.map mk).map V.str) (fun i H4 => H4 I = some (.lst (natV (leads (R1.take i)))) ∧ Same H3 H4) ⟨upd_same, same_new nI⟩ (fun i H4 _ h => SqL.of (h.2 _ _ eC)) ?_ ?_⟩
        · rintro i v H4 hv ⟨eI, s4⟩
          obtain ⟨z, rfl, hz⟩ := str_at hv
          rw [List.getElem?_map] at hz
          obtain ⟨l, hl, rfl⟩ := Option.map_eq_some_iff.mp hz
          have ll := (rz3 l (List.mem_of_getElem? hl)).2
          have lm : (mk l).length ≤ 1000000 := by
            rw [mk_len]
            omega
          refine ⟨rfl, .str (mk l), rfl, ⟨_, rfl⟩, mk l, " ", rfl, rfl, line_of lm, rfl, _, rfl, ?_⟩
          rw [strip_test, lead_take R1 hl]
          show ite ((!spaces l) = true) _ _
          cases spaces l with
          | true =>
            refine iteF ⟨?_, s4⟩
            show H4 I = some (.lst (natV (leads (R1.take i) ++ [])))
            rw [List.append_nil]
            exact eI
          | false =>
            have l3 := leads_len (R1.take i)
            rw [List.length_take] at l3
            have e := indent_len (mk l)
            rw [← sp_one] at e
            refine iteT ⟨.str (mk l), rfl, mk l, rfl, line_of lm, .str (mk l), rfl, ⟨_, rfl⟩, mk l, " ", rfl, rfl, line_of lm, _, rfl, Nat.le_trans (len_stripBy _ _ _ _) (line_of lm), _, _, rfl, rfl, _, eI, ?_, ?_, fun b o e' => ?_⟩
            · unfold natV
              rw [List.length_map, List.length_map]
              exact Nat.lt_of_le_of_lt (show (leads (R1.take i)).length ≤ 100 by omega) (by decide)
            · rw [upd_same]
              show some (HO.lst (natV (leads (R1.take i)) ++ [V.int (((mk l).length : Int) - ((Txt.lstripChars (mk l) " ").length : Int))])) = _
              rw [e]
              show some (HO.lst (natV (leads (R1.take i)) ++ [.int (lead l : Nat)])) = some (.lst (natV (leads (R1.take i) ++ [lead l])))
              rw [natV_app]
              rfl
            · rw [upd_ne (ne_of_none e' nI)]
              exact s4 b o e'
        · rintro H4 ⟨eI, s4⟩
          rw [rowsV_len, List.take_length] at eI
          have ll := leads_len R1
          have lle : ∀ x ∈ leads R1, x ≤ 90 := fun x hx => by
            obtain ⟨l, hl, rfl⟩ := List.mem_map.mp hx
            have h1 := lead_le l
            have h2 := (rz3 l (List.mem_filter.mp hl).1).2
            omega
          -- the least of them
          refine ⟨.ref I, rfl, by show 1 ≤ sizeLine; decide, fun N nN => ⟨I, N, _, _, rfl, rfl, same_new nN _ _ eI, upd_same, ?_, fun M nM => ⟨M, (leads R1).map (fun x : Nat => (x : Int)) ++ [999], rfl, SqL.of ?_, by simp, fun mn hmem hle => ?_⟩⟩⟩
          · unfold natV
            rw [List.length_map, List.length_map]
            exact Nat.le_trans (show (leads R1).length + 1 ≤ 100 by omega) (by decide)
          · rw [upd_same, List.map_append]
            rfl
          have sN := same_new (o := .lst [V.int 999]) nN
          have sM := same_new (o := .lst (natV (leads R1) ++ [V.int 999])) nM
          have s5 := s4.trans (sN.trans sM)
          have eI5 := sM _ _ (sN _ _ eI)
          have eC5 := s5 _ _ eC
          generalize upd (upd H4 N (.lst [V.int 999])) M (.lst (natV (leads R1) ++ [V.int 999])) = H5 at s5 eI5 eC5 ⊢
          have mn0 : 0 ≤ mn ∧ mn ≤ 999 := by
            rcases List.mem_append.mp hmem with h | h
            · obtain ⟨x, hx, rfl⟩ := List.mem_map.mp h
              have := lle x hx
              omega
            · rw [List.mem_singleton.mp h]
              omega
          refine ⟨.ref I, rfl, by show 0 ≤ sizeLine; decide, fun Z nZ => ?_⟩
          have sZ := same_new (o := .lst []) nZ
          refine ⟨_, _, .lst (SqL.of (sZ _ _ eI5)) (dp_ints _), .lst (SqL.of upd_same) .nil, shaped_ints _, shaped_ints [], .inr ⟨_, rfl, ?_⟩⟩
          rw [eqv_nil]
          have s6 := s5.trans sZ
          have eI6 := sZ _ _ eI5
          have eC6 := sZ _ _ eC5
          generalize upd H5 Z (.lst []) = H6 at s6 eI6 eC6 ⊢
          have hmul : mn * (if (!((leads R1).map (fun x : Nat => (x : Int))).isEmpty) = true then 1 else 0) = ((leastN (leads R1) : Nat) : Int) := by
            cases hL : leads R1 with
            | nil =>
              show mn * 0 = 0
              omega
            | cons a r =>
              show mn * 1 = _
              rw [Int.mul_one]
              rw [hL] at hmem hle lle
              rcases List.mem_append.mp hmem with h | h
              · exact leastN_int h fun y hy => hle y (List.mem_append_left _ hy)
              · rw [List.mem_singleton.mp h] at hle
                have h1 := hle (a : Int) (List.mem_append_left _ (List.mem_map.mpr ⟨a, List.mem_cons_self .., rfl⟩))
                have h2 := lle a (List.mem_cons_self ..)
                omega
          refine ⟨mn, _, rfl, rfl, .inl ⟨by omega, by omega⟩, ?_⟩
          dsimp only
          rw [hmul]
          generalize hleast : leastN (leads R1) = least
          refine ⟨by show 0 ≤ sizeLine; decide, fun E nE => ⟨by show 2 ≤ sizeLine; decide, fun U nU => ⟨U, _, rfl, SqT.of upd_same, rfl, _, _, rfl, _, _, rfl, rfl, ?_⟩⟩⟩
          have sE := same_new (o := .lst []) nE
          have eE : (upd H6 E (.lst [])) E = some (.lst (([] : List Addr).map V.ref)) := upd_same
          have sU := same_new (o := .tup [.int (least : Int), .ref E]) nU
          have s7 := s6.trans (sE.trans sU)
          have eE7 := sU _ _ eE
          have eC7 := sU _ _ (sE _ _ eC6)
          have nEH : H3 E = none := s6.free nE
          generalize upd (upd H6 E (.lst [])) U (.tup [.int (least : Int), .ref E]) = H7 at s7 eE7 eC7 ⊢
          have d7 := d3.same s7
          have kt7 : KeepT [G, L, D, A1, B] H H7 := kt3.trans (KeepT.of s7)
          have k7 : Kept D A1 H H7 := k3.trans (Kept.of s7)
          have eG7 := s7 _ _ eG3
          have ep7 := s7 _ _ ep3
          have nEH0 : H E = none := k3.free nEH (fresh_ne d3 nEH).1 (fresh_ne d3 nEH).2
          have ED := fresh_ne d3 nEH
          have EB : E ≠ B := by
            obtain ⟨_, _, ⟨_, eB⟩⟩ := d3.tracked
            exact (ne_of_none eB nEH).symm
          have CD := fresh_ne d2 nC
          have CE : C ≠ E := ne_of_none eC nEH
          have GE : G ≠ E := ne_of_none eG3 nEH
          have pE : p ≠ E := ne_of_none ep3 nEH
          clear s4 s5 s6 eI eI5 eI6 eC5 eC6 sN sM sZ sE eE sU nU
          have oksR : ∀ x ∈ R1.map mk, okS x := rows_okS rz3
          -- the end
          refine ⟨fun σ' H' => ∃ (e : Bool) (m' : Int), σ' = [some (.ref D), some (.ref p), some (.int (s : Int)), some (.ref C), some (.ref G), v5, some (.ref I), some (.int (least : Int)), some (.ref E), some (.str (mk (endL e))), none, none, none, none, none, none, none] ∧ EndOk R1 e ∧ Drw H' D A1 B m' ∧ m' ≤ n + 22 ∧ Kept D A1 H7 H', ?_, ?_⟩
          · have fin : ∀ (e : Bool) (m' : Int) (H' : Hp), EndOk R1 e → Drw H' D A1 B m' → m' ≤ n + 22 → Kept D A1 H7 H' → ∃ (z : Str) (i : Int), V.str "\n" = .str z ∧ V.int (if e = true then 1 else 0) = .int i ∧ MulOk z i ∧ ∃ (e' : Bool) (m'' : Int), [some (V.ref D), some (.ref p), some (.int (s : Int)), some (.ref C), some (.ref G), v5, some (.ref I), some (.int (least : Int)), some (.ref E), some (.str (Txt.mul z i)), none, none, none, none, none, none, none] = [some (.ref D), some (.ref p), some (.int (s : Int)), some (.ref C), some (.ref G), v5, some (.ref I), some (.int (least : Int)), some (.ref E), some (.str (mk (endL e'))), none, none, none, none, none, none, none] ∧ EndOk R1 e' ∧ Drw H' D A1 B m'' ∧ m'' ≤ n + 22 ∧ Kept D A1 H7 H' := fun e m' H' h1 h2 h3 h4 => by
              have e2 : Txt.mul "\n" (if e = true then 1 else 0) = mk (endL e) := by
                cases e <;> exact ext_tl (by decide +kernel)
              refine ⟨"\n", _, rfl, rfl, ?_, e, m', by rw [e2], h1, h2, h3, h4⟩
              cases e
              · exact mulOk_nl0
              · exact mulOk_nl1
            refine ⟨.ref C, rfl, by show 0 ≤ sizeLine; decide, fun Z nZ => ⟨_, _, .lst (SqL.of (same_new nZ _ _ eC7)) (dp_strs _), .lst (SqL.of upd_same) .nil, shaped_strs _ oksR, shaped_strs [] nofun, _, rfl, ?_⟩⟩
            rw [eqv_nilS]
            have sZ := same_new (o := .lst []) nZ
            have dZ := d7.same sZ
            have eCZ := sZ _ _ eC7
            have kZ : Kept D A1 H7 (upd H7 Z (.lst [])) := Kept.of sZ
            generalize upd H7 Z (.lst []) = H8 at dZ eCZ kZ ⊢
            rcases nil_or_snoc R1 with e0 | ⟨R2, last, e0⟩
            · have hemp : (R1.map mk).isEmpty = true := by
                rw [e0]
                rfl
              rw [hemp]
              exact iteF (.inr ⟨_, rfl, fin false m H8 ⟨fun _ => rfl, fun _ l' hl' => by rw [e0] at hl'; cases hl'⟩ dZ (by omega) kZ⟩)
            · have hemp : (R1.map mk).isEmpty = false := by
                rw [e0, List.map_append]
                cases R2 <;> rfl
              rw [hemp]
              have hlast : R1.getLast? = some last := by
                rw [e0]
                simp
              have hne : R1 ≠ [] := fun z => by
                rw [z] at hlast
                cases hlast
              have lm := (rz3 last (by rw [e0]; simp)).2
              refine iteT ⟨.ref C, rfl, 1, rfl, C, _, -1, .str (mk last), rfl, rfl, SqL.of eCZ, ?_, ⟨_, rfl⟩, mk last, " ", rfl, rfl, by rw [mk_len]; exact line_of (by omega), rfl, _, rfl, ?_⟩
              · rw [e0, List.map_append, List.map_append]
                exact atI_last _ _
              rw [strip_test]
              show ite (spaces last = true) _ _
              cases hsp : spaces last with
              | true =>
                exact iteT (.inr ⟨_, rfl, fin true m H8 ⟨fun z => absurd z hne, fun z => by cases z⟩ dZ (by omega) kZ⟩)
              | false =>
                refine iteF ⟨.ref D, rfl, D, A1, B, m, 2, rfl, dZ, by omega, by decide, by decide, fun u H9 u0 u1 d9 k9 => ⟨rfl, .inr ⟨_, rfl, ?_⟩⟩⟩
                exact fin (decide (V.int u = V.int 0)) (m + 1) H9 ⟨fun z => absurd z hne, fun _ l' hl' => by rw [hlast] at hl'; cases hl'; exact hsp⟩ d9 (by omega) (kZ.trans k9)
          · rintro σ' H8 ⟨e, m', rfl, hend, d8, hm', k78⟩
            have eC8 := k78 _ _ eC7 CD.1 CD.2
            have eG8 := k78 _ _ eG7 GD.1 GD.2
            have eE8 := k78 _ _ eE7 ED.1 ED.2
            have ep8 := k78 _ _ ep7 pD.1 pD.2
            have k8 : Kept D A1 H H8 := k7.trans k78
            have hpt8 : PtsAt [E, G, L, D, A1, B] H8 ts ps := (hpt2.more nEH0).keep (KeepT.kept dr k8 (by simp) (by simp))
            have lo : (natV (offs 0 ns)).length = ns.length := by
              unfold natV
              rw [List.length_map, List.length_map, offs_len]
            clear eC7 eG7 eE7 ep7 d7 kt7 k7 s7 oksR
            refine ⟨.ref p, rfl, .ref G, rfl, p, G, _, _, rfl, SqL.of ep8, SqL.of eG8, RZ.for_zipL (K := K) (a := p) (b := G) (xs := ts.map V.ref) (ys := natV (offs 0 ns)) (by rw [List.length_map, lo]; omega) (fun i σ H9 => ∃ (us : List Addr) (v5 v10 v11 v12 v13 v14 v15 : Option V), σ = [some (.ref D), some (.ref p), some (.int (s : Int)), some (.ref C), some (.ref G), v5, some (.ref I), some (.int (least : Int)), some (.ref E), some (.str (mk (endL e))), v10, v11, v12, v13, v14, v15, none] ∧ H9 E = some (.lst (us.map V.ref)) ∧ DuesAt E [D, A1] H9 us (duesB R1 least s e 0 (ns.take i)) ∧ (∀ b o, b ≠ E → H8 b = some o → H9 b = some o)) ⟨[], v5, none, none, none, none, none, none, rfl, eE8, trivial, fun _ _ _ h => h⟩ (fun i σ H9 h => ?_) ?_ ?_⟩
            · obtain ⟨_, _, _, _, _, _, _, _, _, _, _, ke⟩ := h
              exact ⟨SqL.of (ke _ _ pE ep8), SqL.of (ke _ _ GE eG8)⟩
            · rintro i x y T σ H9 hx hy ⟨us, w5, w10, w11, w12, w13, w14, w15, rfl, eE9, hdu, ke⟩ nT
              rw [List.getElem?_map] at hx
              obtain ⟨t, ht, rfl⟩ := Option.map_eq_some_iff.mp hx
              have kt9 : KeepT [E, G, L, D, A1, B] H8 H9 := fun b o eb h => ke b o (by
                rcases h with ⟨xs, rfl⟩ | h
                · rintro rfl
                  rw [eE8] at eb
                  cases eb
                · rintro rfl
                  exact h (by simp)) eb
              obtain ⟨q, hq, hqt⟩ := (hpt8.keep kt9).get ht
              obtain ⟨q', hq', hqq⟩ := hsim.get hq
              have ho := offs_get ns 0 i q' hq'
              have hfit := rows_fit hq'
              have hzq := hsz q (List.mem_of_getElem? hq)
              have hi : i < ns.length := (List.getElem?_eq_some_iff.mp hq').1
              have hul : us.length ≤ i := by
                have h1 := hdu.len
                have h2 : ∀ (z : List NP) (o : Nat), (duesB R1 least s e o z).length = z.length := fun z => by
                  induction z with
                  | nil => exact fun _ => rfl
                  | cons a b ih => exact fun o => congrArg Nat.succ (ih _)
                rw [h2, List.length_take] at h1
                omega
              have hdue : duesB R1 least s e 0 (ns.take (i + 1)) = duesB R1 least s e 0 (ns.take i) ++ [dueOf R1 least s e (rowsAll (ns.take i)).length q'] := by
                rw [List.take_add_one, hq']
                show duesB R1 least s e 0 (ns.take i ++ [q']) = _
                rw [duesB_snoc, Nat.zero_add]
              obtain rfl : y = .int (((rowsAll (ns.take i)).length : Nat) : Int) := by
                unfold natV at hy
                rw [List.getElem?_map, List.getElem?_map, ho, Nat.zero_add] at hy
                exact (Option.some.inj hy).symm
              generalize hoo : (rowsAll (ns.take i)).length = o at hfit hdue
              have hRl : R1.length = R.length := by rw [← hR1, List.length_map]
              rw [hR] at hfit
              have sT := same_new (o := .tup [.ref t, .int (o : Int)]) nT
              refine ⟨T, [.ref t, .int (o : Int)], rfl, SqT.of upd_same, rfl, _, _, rfl, _, _, rfl, rfl, ?_⟩
              have hqt10 := hqt.keep (KeepT.of (av := [E, G, L, D, A1, B]) sT)
              have eE10 := sT _ _ eE9
              have eC10 := sT _ _ (ke _ _ CE eC8)
              have ke10 : ∀ b o', b ≠ E → H8 b = some o' → (upd H9 T (.tup [.ref t, .int (o : Int)])) b = some o' := fun b o' n1 h => sT _ _ (ke b o' n1 h)
              have hdu10 : DuesAt E [D, A1] (upd H9 T (.tup [.ref t, .int (o : Int)])) us (duesB R1 least s e 0 (ns.take i)) := hdu.keep eE9 fun b o' _ h => sT _ _ h
              generalize upd H9 T (.tup [.ref t, .int (o : Int)]) = H10 at hqt10 eE10 eC10 ke10 hdu10 ⊢
              -- a further one
              have fin : ∀ (T2 : Addr) (H' : Hp) (v5 v10 v11 v12 v13 v14 v15 : Option V), Same H10 H' → DueAt E [D, A1] H' T2 (dueOf R1 least s e o q') →
                  ∃ xs : List V, H' E = some (.lst xs) ∧ xs.length < sizeLine ∧ ∃ (us : List Addr) (w5 w10 w11 w12 w13 w14 w15 : Option V), [some (V.ref D), some (.ref p), some (.int (s : Int)), some (.ref C), some (.ref G), v5, some (.ref I), some (.int (least : Int)), some (.ref E), some (.str (mk (endL e))), v10, v11, v12, v13, v14, v15, none] = [some (.ref D), some (.ref p), some (.int (s : Int)), some (.ref C), some (.ref G), w5, some (.ref I), some (.int (least : Int)), some (.ref E), some (.str (mk (endL e))), w10, w11, w12, w13, w14, w15, none] ∧ (upd H' E (.lst (xs ++ [.ref T2]))) E = some (.lst (us.map V.ref)) ∧ DuesAt E [D, A1] (upd H' E (.lst (xs ++ [.ref T2]))) us (duesB R1 least s e 0 (ns.take (i + 1))) ∧ (∀ b o', b ≠ E → H8 b = some o' → (upd H' E (.lst (xs ++ [.ref T2]))) b = some o') := fun T2 H' v5 v10 v11 v12 v13 v14 v15 s' hd' => by
                have eE' := s' _ _ eE10
                have hk : ∀ b o', b ≠ E → H' b = some o' → (upd H' E (.lst (us.map V.ref ++ [.ref T2]))) b = some o' := fun b o' n1 h => by
                  rw [upd_ne n1]
                  exact h
                refine ⟨_, eE', ?_, us ++ [T2], v5, v10, v11, v12, v13, v14, v15, rfl, ?_, ?_, fun b o' n1 h => hk b o' n1 (s' _ _ (ke10 b o' n1 h))⟩
                · rw [List.length_map]
                  exact Nat.lt_of_le_of_lt (show us.length ≤ 10 by omega) (by decide)
                · rw [upd_same, List.map_append]
                  rfl
                · rw [hdue]
                  exact DuesAt.snoc (hd'.keep eE' hk) ((hdu10.keep eE10 fun b o' _ h => s' _ _ h).keep eE' hk)
              cases q with
              | txt ls =>
                cases q' with
                | ex _ _ _ _ => exact hqq.elim
                | txt ls' =>
                  obtain rfl : ls = ls' := hqq
                  obtain ⟨L0, g1, g2, g3⟩ := hqt10
                  obtain ⟨z1, z2⟩ := hzq
                  have hfit' : o + ls.length ≤ R1.length := by
                    rw [hRl]
                    exact hfit
                  refine ⟨.ref t, rfl, t, _, 0, .str "text", rfl, rfl, SqT.of g1, rfl, rfl, _, rfl, ?_⟩
                  rw [show decide (V.str "text" = V.str "text") = true from decide_eq_true rfl]
                  refine iteT ⟨⟨_, rfl⟩, .ref C, rfl, .int (o : Int), rfl, _, rfl, .int (o : Int), rfl, .ref t, rfl, t, _, 1, .ref L0, rfl, rfl, SqT.of g1, rfl, L0, _, rfl, .inl (SqL.of g2), _, _, rfl, rfl, _, rfl, C, _, rfl, SqL.of eC10, fun y ny => ?_⟩
                  have ecv : cutV ((R1.map mk).map V.str) (some (o : Int)) (some ((o : Int) + ((((ls.map mk).map V.str).length : Nat) : Int))) = (((R1.drop o).take ls.length).map mk).map V.str := by
                    have h1 := cutV_seg ((R1.map mk).map V.str) o (o + ls.length) (by omega) (by rw [rowsV_len]; exact hfit')
                    rw [rowsV_len, ← Int.natCast_add, h1, Nat.add_sub_cancel_left, List.map_take, List.map_take, List.map_drop, List.map_drop]
                  rw [ecv]
                  have rsl : ∀ l ∈ (R1.drop o).take ls.length, l.length ≤ 90 := fun l hl => (rz3 l (List.mem_of_mem_drop (List.mem_of_mem_take hl))).2
                  have lsl : ((R1.drop o).take ls.length).length ≤ 4 := by
                    rw [List.length_take]
                    omega
                  have hdu0 : dueOf R1 least s e o (.txt ls) = .txt (if (decide (o + ls.length = R1.length) && !e) = true then mk (joinL [] (((R1.drop o).take ls.length).map fun l => l.drop least ++ [10])).dropLast else mk (joinL [] (((R1.drop o).take ls.length).map fun l => l.drop least ++ [10]))) := rfl
                  rw [hdu0] at fin
                  generalize (R1.drop o).take ls.length = sl at rsl lsl fin ⊢
                  have sy := same_new (o := .lst ((sl.map mk).map V.str)) ny
                  have ey : (upd H10 y (.lst ((sl.map mk).map V.str))) y = some (rowsV sl) := upd_same
                  have g1y := sy _ _ g1
                  have g2y := sy _ _ g2
                  have eCy := sy _ _ eC10
                  generalize upd H10 y (.lst ((sl.map mk).map V.str)) = H11 at sy ey g1y g2y eCy ⊢
                  refine ⟨y, rfl, ⟨_, SqL.of ey⟩, fun M nM => lc_list (K := K) (a := y) (xs := (sl.map mk).map V.str) (fun i H12 => H12 M = some (rowsV ((sl.take i).map fun l => l.drop least ++ [10])) ∧ Same H11 H12) ⟨upd_same, same_new nM⟩ (fun i H12 _ h => SqL.of (h.2 _ _ ey)) ?_ ?_⟩
                  · rintro j v H12 hv ⟨eM, s12⟩
                    obtain ⟨z, rfl, hz⟩ := str_at hv
                    rw [List.getElem?_map] at hz
                    obtain ⟨l, hl, rfl⟩ := Option.map_eq_some_iff.mp hz
                    have ll := rsl l (List.mem_of_getElem? hl)
                    have e3 : cutS (mk l) (some ((least : Nat) : Int)) none = mk (l.drop least) := ext_tl (cutS_from (mk l) least)
                    have l1 : ("\n" : Str).length = 1 := rfl
                    refine ⟨rfl, ?_⟩
                    unfold tYes
                    show ite (true = true) _ _
                    rw [if_pos rfl]
                    refine ⟨.str (mk l), rfl, .int (least : Nat), rfl, _, rfl, mk l, rfl, by rw [mk_len]; exact line_of (by omega), ?_⟩
                    rw [e3]
                    have e4 : mk (l.drop least) ++ "\n" = mk (l.drop least ++ [10]) := ext_tl (tl_append _ _)
                    refine ⟨_, _, rfl, rfl, by rw [mk_len, l1, List.length_drop]; exact line_of (by omega), _, eM, ?_, ?_, fun b o' eb => ?_⟩
                    · rw [rowsV_len, List.length_map, List.length_take]
                      exact Nat.lt_of_le_of_lt (show min j sl.length ≤ 100 by omega) (by decide)
                    · rw [upd_same, List.take_add_one, hl, List.map_append, e4]
                      exact congrArg some (rowsV_snoc _ (mk (l.drop least ++ [10])))
                    · rw [upd_ne (ne_of_none eb nM)]
                      exact s12 b o' eb
                  · rintro H12 ⟨eM, s12⟩
                    rw [rowsV_len, List.take_length] at eM
                    have hql : ∀ l ∈ sl.map (fun l => l.drop least ++ [10]), l.length ≤ 91 := fun l hl => by
                      obtain ⟨l', h', rfl⟩ := List.mem_map.mp hl
                      have := rsl l' h'
                      rw [List.length_append, List.length_drop]
                      show _ + 1 ≤ 91
                      omega
                    have hfl := flat_le hql
                    refine ⟨"", M, _, rfl, rfl, .inl (SqL.of eM), Nat.le_trans hfl (Nat.le_trans (show (sl.map fun l => l.drop least ++ [10]).length * 91 ≤ 400 by rw [List.length_map]; omega) (show 400 ≤ 16777216 by decide)), ?_⟩
                    rw [join_flat]
                    have hjl : (joinL [] (sl.map fun l => l.drop least ++ [10])).length ≤ 400 := by
                      have h1 := sum_le_of hql
                      rw [List.length_map] at h1
                      rw [joinL_flatten, List.length_flatten]
                      exact Nat.le_trans h1 (by omega)
                    have s10 := sy.trans s12
                    refine ⟨.int (o : Int), rfl, .ref t, rfl, t, _, 1, .ref L0, rfl, rfl, SqT.of (s12 _ _ g1y), rfl, L0, _, rfl, .inl (SqL.of (s12 _ _ g2y)), _, _, rfl, rfl, .ref C, rfl, C, _, rfl, .inl (SqL.of (s12 _ _ eCy)), rfl, ?_⟩
                    have eb : decide (V.int ((o : Int) + ((((ls.map mk).map V.str).length : Nat) : Int)) = V.int ((((R1.map mk).map V.str).length : Nat) : Int)) = decide (o + ls.length = R1.length) := by
                      rw [rowsV_len, rowsV_len, ← Int.natCast_add]
                      refine decide_eq_decide.mpr ⟨fun h => ?_, fun h => by rw [h]⟩
                      have h2 := V.int.inj h
                      omega
                    dsimp only
                    rw [eb]
                    have ee : decide (V.str (mk (endL e)) = V.str "") = !e := by cases e <;> decide +kernel
                    generalize decide (o + ls.length = R1.length) = bl at fin ⊢
                    refine ⟨.ref E, rfl, .inl ⟨rfl, _, SqL.of (s10 _ _ eE10)⟩, .bl bl, rfl, bl, rfl, ?_⟩
                    cases bl with
                    | false =>
                      refine iteF (iteF ⟨.str _, rfl, by show 2 ≤ sizeLine; decide, fun T2 nT2 => ?_⟩)
                      have sT2 := same_new (o := .tup [.str "text", .str (mk (joinL [] (sl.map fun l => l.drop least ++ [10])))]) nT2
                      obtain ⟨xs, f1, f2, f3⟩ := fin T2 _ _ _ _ _ _ _ _ (s10.trans sT2) upd_same
                      exact ⟨E, xs, _, rfl, rfl, f1, f2, f3⟩
                    | true =>
                      refine iteT ⟨.str (mk (endL e)), rfl, rfl, _, rfl, ?_⟩
                      rw [ee]
                      cases e with
                      | true =>
                        refine iteF ⟨.str _, rfl, by show 2 ≤ sizeLine; decide, fun T2 nT2 => ?_⟩
                        have sT2 := same_new (o := .tup [.str "text", .str (mk (joinL [] (sl.map fun l => l.drop least ++ [10])))]) nT2
                        obtain ⟨xs, f1, f2, f3⟩ := fin T2 _ _ _ _ _ _ _ _ (s10.trans sT2) upd_same
                        exact ⟨E, xs, _, rfl, rfl, f1, f2, f3⟩
                      | false =>
                        refine iteT ⟨.str _, rfl, 1, rfl, -1, rfl, _, rfl, by rw [mk_len]; exact line_of (by omega), ?_⟩
                        rw [cut_last]
                        refine ⟨by show 2 ≤ sizeLine; decide, fun T2 nT2 => ?_⟩
                        have sT2 := same_new (o := .tup [.str "text", .str (mk (joinL [] (sl.map fun l => l.drop least ++ [10])).dropLast)]) nT2
                        obtain ⟨xs, f1, f2, f3⟩ := fin T2 _ _ _ _ _ _ _ _ (s10.trans sT2) upd_same
                        exact ⟨E, xs, _, rfl, rfl, f1, f2, f3⟩
              | ex c d ss ws =>
                cases q' with
                | txt _ => exact hqq.elim
                | ex c' d' ss' ws' =>
                  obtain ⟨rfl, rfl, hss, rfl⟩ := hqq
                  obtain ⟨S, W, g1, g2, g3, g4, g5⟩ := hqt10
                  obtain ⟨z1, z2, z3, z4, z5⟩ := hzq
                  have r2 : ∀ l ∈ ss.map (·.1), szL 20 l := fun l hl => by
                    obtain ⟨x, hx, rfl⟩ := List.mem_map.mp hl
                    exact z3 x hx
                  have l2 : (ss.map (·.1)).length ≤ 3 := by
                    rw [List.length_map]
                    exact z2
                  have hdu1 : dueOf R1 least s e o (.ex c d ss' ws) = if c = true then .com (rowsT (ss.map (·.1))) (rowsT ws) ((o : Int) + 1) ((d : Int) + s - least) else .exa (rowsT (ss.map (·.1))) (rowsT ws) ((o : Int) + 1) ((d : Int) + s - least) (optV (errL ws)) (bareLT (ss.map (·.1))) := by
                    rw [hss]
                    cases c <;> rfl
                  rw [hdu1] at fin
                  generalize ss.map (·.1) = sl at g2 r2 l2 fin
                  refine ⟨.ref t, rfl, t, _, 0, .str (kindS c), rfl, rfl, SqT.of g1, rfl, rfl, _, rfl, ?_⟩
                  rw [show decide (V.str (kindS c) = V.str "text") = false by cases c <;> decide +kernel]
                  -- lines, each with a line feed
                  have step : ∀ (sl : List (List Nat)) (b : Nat), (∀ l ∈ sl, szL b l) → b ≤ 60 → sl.length ≤ 4 → ((((sl.map (· ++ [10])).map mk).map (·.length)).sum + ((sl.map (· ++ [10])).map mk).length * ("" : Str).length ≤ 16777216) ∧ ∀ l ∈ sl, (mk l).length + ("\n" : Str).length ≤ sizeLine := fun sl b h1 h2 h3 => by
                    have hq : ∀ l ∈ sl.map (· ++ [10]), l.length ≤ 61 := fun l hl => by
                      obtain ⟨l', h', rfl⟩ := List.mem_map.mp hl
                      have := (h1 l' h').2
                      rw [List.length_append]
                      show _ + 1 ≤ 61
                      omega
                    refine ⟨Nat.le_trans (flat_le hq) (Nat.le_trans (show (sl.map (· ++ [10])).length * 61 ≤ 400 by rw [List.length_map]; omega) (show 400 ≤ 16777216 by decide)), fun l hl => ?_⟩
                    have := (h1 l hl).2
                    have l1 : ("\n" : Str).length = 1 := rfl
                    rw [mk_len, l1]
                    exact line_of (by omega)
                  refine iteF ⟨⟨_, rfl⟩, .ref t, rfl, t, _, 2, .ref S, rfl, rfl, SqT.of g1, rfl, S, rfl, ⟨_, SqL.of g2⟩, fun M nM => lc_list (K := K) (a := S) (xs := (sl.map mk).map V.str) (fun i H12 => H12 M = some (rowsV ((sl.take i).map (· ++ [10]))) ∧ Same H10 H12) ⟨upd_same, same_new nM⟩ (fun i H12 _ h => SqL.of (h.2 _ _ g2)) ?_ ?_⟩
                  · rintro j v H12 hv ⟨eM, s12⟩
                    obtain ⟨z, rfl, hz⟩ := str_at hv
                    rw [List.getElem?_map] at hz
                    obtain ⟨l, hl, rfl⟩ := Option.map_eq_some_iff.mp hz
                    have hsz' := (step sl 20 r2 (by omega) (by omega)).2 l (List.mem_of_getElem? hl)
                    refine ⟨rfl, ?_⟩
                    unfold tYes
                    show ite (true = true) _ _
                    rw [if_pos rfl]
                    have e4 : mk l ++ "\n" = mk (l ++ [10]) := ext_tl (tl_append _ _)
                    refine ⟨.str (mk l), rfl, _, _, rfl, rfl, hsz', _, eM, ?_, ?_, fun b o' eb => ?_⟩
                    · rw [rowsV_len, List.length_map, List.length_take]
                      exact Nat.lt_of_le_of_lt (show min j sl.length ≤ 100 by omega) (by decide)
                    · rw [upd_same, List.take_add_one, hl, List.map_append, e4]
                      exact congrArg some (rowsV_snoc _ (mk (l ++ [10])))
                    · rw [upd_ne (ne_of_none eb nM)]
                      exact s12 b o' eb
                  · rintro H12 ⟨eM, s12⟩
                    rw [rowsV_len, List.take_length] at eM
                    refine ⟨"", M, _, rfl, rfl, .inl (SqL.of eM), (step sl 20 r2 (by omega) (by omega)).1, ?_⟩
                    rw [join_flat]
                    have g12 := s12 _ _ g1
                    have g32 := s12 _ _ g3
                    refine ⟨⟨_, rfl⟩, .ref t, rfl, t, _, 3, .ref W, rfl, rfl, SqT.of g12, rfl, W, rfl, ⟨_, SqL.of g32⟩, fun M2 nM2 => lc_list (K := K) (a := W) (xs := (ws.map mk).map V.str) (fun i H13 => H13 M2 = some (rowsV ((ws.take i).map (· ++ [10]))) ∧ Same H12 H13) ⟨upd_same, same_new nM2⟩ (fun i H13 _ h => SqL.of (h.2 _ _ g32)) ?_ ?_⟩
                    · rintro j v H13 hv ⟨eM2, s13⟩
                      obtain ⟨z, rfl, hz⟩ := str_at hv
                      rw [List.getElem?_map] at hz
                      obtain ⟨l, hl, rfl⟩ := Option.map_eq_some_iff.mp hz
                      have hsz' := (step ws 60 z5 (by omega) (by omega)).2 l (List.mem_of_getElem? hl)
                      refine ⟨rfl, ?_⟩
                      unfold tYes
                      show ite (true = true) _ _
                      rw [if_pos rfl]
                      have e4 : mk l ++ "\n" = mk (l ++ [10]) := ext_tl (tl_append _ _)
                      refine ⟨.str (mk l), rfl, _, _, rfl, rfl, hsz', _, eM2, ?_, ?_, fun b o' eb => ?_⟩
                      · rw [rowsV_len, List.length_map, List.length_take]
                        exact Nat.lt_of_le_of_lt (show min j ws.length ≤ 100 by omega) (by decide)
                      · rw [upd_same, List.take_add_one, hl, List.map_append, e4]
                        exact congrArg some (rowsV_snoc _ (mk (l ++ [10])))
                      · rw [upd_ne (ne_of_none eb nM2)]
                        exact s13 b o' eb
                    · rintro H13 ⟨eM2, s13⟩
                      rw [rowsV_len, List.take_length] at eM2
                      refine ⟨"", M2, _, rfl, rfl, .inl (SqL.of eM2), (step ws 60 z5 (by omega) (by omega)).1, ?_⟩
                      rw [join_flat]
                      have s11 := s12.trans s13
                      have g13 := s11 _ _ g1
                      have g33 := s11 _ _ g3
                      have g23 := s11 _ _ g2
                      refine ⟨_, _, rfl, .ref t, rfl, t, _, 0, .str (kindS c), rfl, rfl, SqT.of g13, rfl, .str _, rfl, .str _, rfl, .int (o : Int), rfl, _, _, rfl, rfl, .ref t, rfl, t, _, 1, .int (d : Int), rfl, rfl, SqT.of g13, rfl, .int (s : Int), rfl, _, _, rfl, rfl, .int (least : Int), rfl, _, _, rfl, rfl, by show 5 ≤ sizeLine; decide, fun F5 nF5 => ?_⟩
                      have eF5 := upd_same (H := H13) (a := F5) (o := .tup [V.str (kindS c), .str (mk (joinL [] (sl.map (· ++ [10])))), .str (mk (joinL [] (ws.map (· ++ [10])))), .int ((o : Int) + 1), .int ((d : Int) + s - least)])
                      have sF5 := same_new (o := .tup [V.str (kindS c), .str (mk (joinL [] (sl.map (· ++ [10])))), .str (mk (joinL [] (ws.map (· ++ [10])))), .int ((o : Int) + 1), .int ((d : Int) + s - least)]) nF5
                      have s14 := s11.trans sF5
                      refine ⟨.ref E, rfl, .inl ⟨rfl, _, SqL.of (s14 _ _ eE10)⟩, .ref F5, rfl, .ref t, rfl, t, _, 0, .str (kindS c), rfl, rfl, SqT.of (s14 _ _ g1), rfl, rfl, _, rfl, ?_⟩
                      have e14 := s14 _ _ g1
                      have e24 := s14 _ _ g2
                      have e34 := s14 _ _ g3
                      generalize (upd H13 F5 (.tup [V.str (kindS c), .str (mk (joinL [] (sl.map (· ++ [10])))), .str (mk (joinL [] (ws.map (· ++ [10])))), .int ((o : Int) + 1), .int ((d : Int) + s - least)])) = H14 at eF5 s14 e14 e24 e34 ⊢
                      cases c with
                      | true =>
                        rw [show decide (V.str (kindS true) = V.str "example") = false by decide +kernel]
                        refine iteF ⟨by show 0 ≤ sizeLine; decide, fun R3 nR3 => ?_⟩
                        have sR3 := same_new (o := .tup []) nR3
                        refine ⟨F5, R3, _, _, rfl, rfl, SqT.of (sR3 _ _ eF5), SqT.of upd_same, by simp, by show 5 ≤ sizeLine; decide, fun _ => ?_, fun z => absurd rfl z⟩
                        obtain ⟨xs, f1, f2, f3⟩ := fin F5 _ _ _ _ _ _ _ _ (s14.trans sR3) (sR3 _ _ eF5)
                        exact ⟨E, xs, _, rfl, rfl, f1, f2, f3⟩
                      | false =>
                        rw [show decide (V.str (kindS false) = V.str "example") = true by decide +kernel]
                        refine iteT ⟨.ref t, rfl, t, _, 3, .ref W, rfl, rfl, SqT.of e14, rfl, W, ws, rfl, e34, fun l hl => ⟨(z5 l hl).2, fun x hx => ?_⟩, by omega, fun H15 s15 => ⟨by show 0 ≤ sizeLine; decide, fun Z nZ => ?_⟩⟩
                        · have h1 := (z5 l hl).1
                          unfold okc at h1
                          rw [List.all_eq_true] at h1
                          have h2 := h1 x hx
                          rw [Bool.and_eq_true, decide_eq_true_eq, decide_eq_true_eq] at h2
                          omega
                        have sZ := same_new (o := .lst []) nZ
                        have eZ : (upd H15 Z (.lst [])) Z = some (.lst []) := upd_same
                        have ZE : Z ≠ E := (ne_of_none (s15 _ _ (s14 _ _ eE10)) nZ).symm
                        have ZDA : Z ∉ [D, A1] := by
                          obtain ⟨⟨_, eD0⟩, ⟨_, eA0⟩, _⟩ := d8.tracked
                          have z1 := (ne_of_none (s15 _ _ (s14 _ _ (ke10 _ _ ED.1.symm eD0))) nZ).symm
                          have z2 := (ne_of_none (s15 _ _ (s14 _ _ (ke10 _ _ ED.2.symm eA0))) nZ).symm
                          simp [z1, z2]
                        refine ⟨.ref t, rfl, t, _, 2, .ref S, rfl, rfl, SqT.of (sZ _ _ (s15 _ _ e14)), rfl, S, sl, rfl, sZ _ _ (s15 _ _ e24), fun l hl => by have := (r2 l hl).2; omega, by omega, fun H16 s16 => ⟨by show 3 ≤ sizeLine; decide, fun R3 nR3 => ?_⟩⟩
                        have sR3 := same_new (o := .tup [optV (errL ws), .ref Z, .str (bareLT sl)]) nR3
                        have s17 := s15.trans (sZ.trans (s16.trans sR3))
                        refine ⟨F5, R3, _, _, rfl, rfl, SqT.of (s17 _ _ eF5), SqT.of upd_same, by simp, by show 8 ≤ sizeLine; decide, fun z => (by cases z), fun _ T2 nT2 => ?_⟩
                        have sT2 := same_new (o := .tup ([V.str (kindS false), .str (mk (joinL [] (sl.map (· ++ [10])))), .str (mk (joinL [] (ws.map (· ++ [10])))), .int ((o : Int) + 1), .int ((d : Int) + s - least)] ++ [optV (errL ws), .ref Z, .str (bareLT sl)])) nT2
                        obtain ⟨xs, f1, f2, f3⟩ := fin T2 _ _ _ _ _ _ _ _ ((s14.trans s17).trans sT2) ⟨Z, upd_same, sT2 _ _ (sR3 _ _ (s16 _ _ eZ)), ZE, ZDA⟩
                        exact ⟨E, xs, _, rfl, rfl, f1, f2, f3⟩
            · rintro σ H9 ⟨us, w5, w10, w11, w12, w13, w14, w15, rfl, eE9, hdu, ke⟩
              rw [List.length_map, lt, show ps.length = ns.length from lns, List.take_length] at hdu
              have eC9 := ke _ _ CE eC8
              have jl := joinL_len [10] (ps := R1)
              have hjl : (joinL [10] R1).length ≤ 5000 := by
                by_cases h0 : R1 = []
                · rw [h0]
                  exact Nat.zero_le _
                · have h1 := jl h0
                  have h2 := sum_le_of fun l hl => (rz3 l hl).2
                  have e1 : ([10] : List Nat).length = 1 := rfl
                  rw [e1] at h1
                  omega
              have e10 : Txt.join "\n" (R1.map mk) = mk (joinL [10] R1) := by
                have e1 : ("\n" : Str) = mk [10] := ten_eq
                rw [e1, join_mk]
              have l1 : ("\n" : Str).length = 1 := rfl
              have le2 : (endL e).length ≤ 1 := by cases e <;> decide
              refine ⟨⟨_, rfl⟩, .ref C, rfl, "\n", C, R1.map mk, rfl, rfl, .inl (SqL.of eC9), ?_, .str (mk (endL e)), rfl, _, _, rfl, rfl, ?_, .ref E, rfl, by show 2 ≤ sizeLine; decide, fun T nT => ?_⟩
              · rw [l1, List.map_map, List.length_map]
                have h2 := sum_le_of fun l hl => (rz3 l hl).2
                show (R1.map (·.length)).sum + _ ≤ _
                omega
              · rw [e10, mk_len, mk_len]
                exact line_of (by omega)
              have e11 : Txt.join "\n" (R1.map mk) ++ mk (endL e) = mk (joinL [10] R1 ++ endL e) := by
                rw [e10]
                exact ext_tl (tl_append _ _)
              rw [e11]
              have d9 : Drw H9 D A1 B m' := by
                obtain ⟨⟨as, bs, c, h1, h2, h3⟩, h4, h5⟩ := d8
                exact ⟨⟨as, bs, c, ke _ _ ED.1.symm h1, ke _ _ ED.2.symm h2, ke _ _ EB.symm h3⟩, h4, h5⟩
              have k9 : Kept D A1 H H9 := fun b o' eb n1 n2 => ke _ _ (ne_of_none eb nEH0) (k8 _ _ eb n1 n2)
              have TD := fresh_ne d9 nT
              have nTH : H T = none := k9.free nT TD.1 TD.2
              have sT := same_new (o := .tup [V.str (mk (joinL [10] R1 ++ endL e)), .ref E]) nT
              have hRR : (rowsAll ns).map (shl s) = R1 := by rw [hR, hR1]
              refine k ns e T E us m' _ hsim hok (by rw [hRR]; exact hend) (by rw [hRR]; exact upd_same) nTH (sT _ _ eE9) nEH0 ?_ (d9.new nT) (by omega) (k9.trans (Kept.of sT))
              rw [hRR, hleast]
              exact hdu.keep eE9 fun b o' _ h => sT _ _ h
end

/-! ### what the text of parts is cut into -/
theorem drop_sps_le {n m : Nat} (h : m ≤ n) (l : List Nat) : (sps n ++ l).drop m = sps (n - m) ++ l := by
  have e : (sps n).length = n := List.length_replicate
  rw [List.drop_append_of_le_length (by omega)]
  congr 1
  unfold sps
  rw [List.drop_replicate]
theorem sps_add (a b : Nat) (l : List Nat) : sps a ++ (sps b ++ l) = sps (a + b) ++ l := by
  unfold sps
  rw [← List.append_assoc, List.replicate_append_replicate]
theorem spaces_app (n : Nat) (l : List Nat) : spaces (sps n ++ l) = spaces l := by
  unfold spaces
  rw [List.all_append]
  have : (sps n).all (· == 32) = true := by
    rw [List.all_eq_true]
    intro c hc
    rw [List.eq_of_mem_replicate hc]
    rfl
  rw [this, Bool.true_and]
theorem blank_spaces {l : List Nat} (h : spaces l = true) : isBlank l = true := by
  unfold spaces at h
  unfold isBlank
  rw [List.all_eq_true] at h ⊢
  intro c hc
  rw [h c hc]
  rfl
theorem blank_app {n : Nat} {l : List Nat} (h : isBlank l = true) : isBlank (sps n ++ l) = true := by
  unfold isBlank at h ⊢
  rw [List.all_append, h, Bool.and_true, List.all_eq_true]
  intro c hc
  rw [List.eq_of_mem_replicate hc]
  rfl
theorem bg_blank {l : List Nat} (h : isBlank l = true) : bg (mk l) ">>>" = false := by
  rw [bgP]
  have h2 := blank_drop h (lead l)
  generalize l.drop (lead l) = m at h2
  cases m with
  | nil => rfl
  | cons c r =>
    unfold isBlank at h2
    rw [List.all_cons, Bool.and_eq_true] at h2
    have h3 : (c == 62) = false := by
      rw [beq_eq_false_iff_ne]
      rintro rfl
      exact absurd h2.1 (by decide)
    show ((c :: r).take 3 == P3) = false
    rw [List.take_succ_cons]
    show (c :: r.take 2 == 62 :: [62, 62]) = false
    rw [List.cons_beq_cons, h3]
    rfl
theorem drop_lead {l : List Nat} {m : Nat} (h : m ≤ lead l) : (l.drop m).drop (lead (l.drop m)) = l.drop (lead l) := by
  rw [lead_drop l m h, List.drop_drop]
  congr 1
  omega
/-- a part moved to the right by s, and back by m -/
def NP.lev (s m : Nat) : NP → NP
  | .txt ls => .txt (ls.map fun l => (shl s l).drop m)
  | .ex c d ss ws => .ex c (d + s - m) ss ws
/-- m columns may be taken off -/
def NP.Off (s m : Nat) : NP → Prop
  | .txt ls => ∀ l ∈ ls, spaces l = false → m ≤ s + lead l
  | .ex _ d _ _ => m ≤ d + s
theorem spaces_P (d : Nat) (p b : List Nat) (h : spaces p = false) : spaces (srow d p b) = false := by
  unfold srow
  rw [spaces_app]
  unfold spaces at h ⊢
  rw [List.all_append, h]
  rfl
theorem srow_lev {s m d : Nat} (h : m ≤ d + s) (p b : List Nat) (hp : spaces p = false) : (shl s (srow d p b)).drop m = srow (d + s - m) p b := by
  unfold shl
  rw [spaces_P d p b hp, if_neg Bool.false_ne_true]
  unfold srow
  rw [sps_add, drop_sps_le (by omega), Nat.add_comm s d]
theorem rows_lev {s m : Nat} {q : NP} (ok : q.Ok) (off : q.Off s m) : (q.lev s m).rows = (q.rows.map (shl s)).map (·.drop m) := by
  cases q with
  | txt ls =>
    show ls.map _ = (ls.map _).map _
    rw [List.map_map]
    rfl
  | ex c d ss ws =>
    obtain ⟨hne, hss, _, hws, _⟩ := ok
    show srows (d + s - m) ss ++ ws.map (sps (d + s - m) ++ ·) = (((srows d ss ++ ws.map (sps d ++ ·)).map (shl s)).map (·.drop m))
    rw [List.map_append, List.map_append]
    congr 1
    · cases ss with
      | nil => rfl
      | cons p r =>
        show srow (d + s - m) P3 p.2 :: r.map (fun q => srow (d + s - m) D3 q.2) = (shl s (srow d P3 p.2)).drop m :: ((r.map fun q => srow d D3 q.2).map (shl s)).map (·.drop m)
        rw [srow_lev off P3 p.2 (by decide), List.map_map, List.map_map]
        congr 1
        exact List.map_congr_left fun q _ => (srow_lev off D3 q.2 (by decide)).symm
    · rw [List.map_map, List.map_map]
      refine List.map_congr_left fun w hw => ?_
      have hb := (hws w hw).1
      have hsp : spaces w = false := by
        cases e : spaces w with
        | false => rfl
        | true =>
          rw [blank_spaces e] at hb
          cases hb
      show sps (d + s - m) ++ w = (shl s (sps d ++ w)).drop m
      unfold shl
      have ho : m ≤ d + s := off
      rw [spaces_app, hsp, if_neg Bool.false_ne_true, sps_add, drop_sps_le (by omega), Nat.add_comm s d]
theorem rowsAll_lev {s m : Nat} : ∀ {ns : List NP}, (∀ q ∈ ns, q.Ok ∧ q.Off s m) → rowsAll (ns.map (NP.lev s m)) = ((rowsAll ns).map (shl s)).map (·.drop m)
  | [], _ => rfl
  | q :: r, h => by
    have ih := rowsAll_lev (s := s) (m := m) fun x hx => h x (List.mem_cons_of_mem _ hx)
    have hq := h q (List.mem_cons_self ..)
    rw [List.map_cons, rowsAll_cons, rowsAll_cons, List.map_append, List.map_append, ih, rows_lev hq.1 hq.2]
theorem ok_lev {s m : Nat} {q : NP} (ok : q.Ok) (off : q.Off s m) : (q.lev s m).Ok := by
  cases q with
  | txt ls =>
    obtain ⟨h1, h2⟩ := ok
    refine ⟨fun z => h1 (List.map_eq_nil_iff.mp z), fun l hl => ?_⟩
    obtain ⟨l', hl', rfl⟩ := List.mem_map.mp hl
    unfold shl
    cases hsp : spaces l' with
    | true =>
      rw [if_pos rfl]
      exact bg_blank (blank_drop (blank_spaces hsp) m)
    | false =>
      rw [if_neg Bool.false_ne_true]
      have hm := off l' hl' hsp
      have h3 := h2 l' hl'
      rw [bgP] at h3 ⊢
      rw [drop_lead (by rw [lead_sps]; exact hm), drop_sps]
      exact h3
  | ex c d ss ws => exact ok
theorem first_lev {s m : Nat} {q : NP} (h : q.First) : (q.lev s m).First := by
  cases q with
  | txt ls =>
    obtain ⟨l, r, rfl, hb⟩ := h
    refine ⟨_, _, rfl, blank_drop ?_ m⟩
    unfold shl
    split
    · exact hb
    · exact blank_app hb
  | ex c d ss ws => trivial
theorem isTxt_lev (s m : Nat) (q : NP) : (q.lev s m).isTxt = q.isTxt := by cases q <;> rfl
theorem seq_lev {s m : Nat} : ∀ {ns : List NP}, SeqOk ns → (∀ q ∈ ns, q.Off s m) → SeqOk (ns.map (NP.lev s m))
  | [], _, _ => trivial
  | q :: r, h, ho => ⟨ok_lev h.1 (ho q (List.mem_cons_self ..)), fun x r' e => by
      cases r with
      | nil => cases e
      | cons y r2 =>
        cases e
        have := h.2.1 y r2 rfl
        refine ⟨first_lev this.1, fun z => ?_⟩
        rw [isTxt_lev] at z ⊢
        exact this.2 z, seq_lev h.2.2 fun x hx => ho x (List.mem_cons_of_mem _ hx)⟩
theorem sim_first : ∀ {p q : NP}, p.sim q → (p.First → q.First) ∧ p.isTxt = q.isTxt
  | .txt a, .txt b, h => by
    have e : a = b := h
    rw [e]
    exact ⟨fun z => z, rfl⟩
  | .ex _ _ _ _, .ex _ _ _ _, _ => ⟨fun _ => trivial, rfl⟩
  | .txt _, .ex _ _ _ _, h => h.elim
  | .ex _ _ _ _, .txt _, h => h.elim
theorem seq_sim : ∀ {ps ns : List NP}, SeqOk ps → SimAll ps ns → (∀ q ∈ ns, q.Ok) → SeqOk ns
  | [], [], _, _, _ => trivial
  | p :: r, q :: r', h, hs, ho => ⟨ho q (List.mem_cons_self ..), fun x r2 e => by
      cases r with
      | nil =>
        cases r' with
        | nil => cases e
        | cons _ _ => exact hs.2.elim
      | cons y r3 =>
        cases r' with
        | nil => cases e
        | cons y' r4 =>
          cases e
          have h1 := h.2.1 y r3 rfl
          have h2 := sim_first hs.2.1
          have h3 := sim_first hs.1
          exact ⟨h2.1 h1.1, fun z => by rw [← h2.2]; exact h1.2 (by rw [h3.2]; exact z)⟩, seq_sim h.2.2 hs.2 fun x hx => ho x (List.mem_cons_of_mem _ hx)⟩
  | [], _ :: _, _, h, _ => h.elim
  | _ :: _, [], _, h, _ => h.elim
theorem off_of {s : Nat} {ns : List NP} (hok : ∀ q ∈ ns, q.Ok) : ∀ q ∈ ns, q.Off s (leastN (leads ((rowsAll ns).map (shl s)))) := fun q hq => by
  have key : ∀ l ∈ q.rows, spaces l = false → leastN (leads ((rowsAll ns).map (shl s))) ≤ s + lead l := fun l hl hsp => by
    have h1 : l ∈ rowsAll ns := List.mem_flatten.mpr ⟨q.rows, List.mem_map.mpr ⟨q, hq, rfl⟩, hl⟩
    have h2 : lead (shl s l) ∈ leads ((rowsAll ns).map (shl s)) := by
      refine List.mem_map.mpr ⟨shl s l, List.mem_filter.mpr ⟨List.mem_map.mpr ⟨l, h1, rfl⟩, ?_⟩, rfl⟩
      unfold shl
      rw [hsp, if_neg Bool.false_ne_true, spaces_app, hsp]
      rfl
    have h3 := (leastN_spec (ns := leads ((rowsAll ns).map (shl s))) (fun z => by rw [z] at h2; cases h2)).2 _ h2
    have h4 : lead (shl s l) = s + lead l := by
      unfold shl
      rw [hsp, if_neg Bool.false_ne_true, lead_sps]
    rw [h4] at h3
    exact h3
  cases q with
  | txt ls => exact fun l hl hsp => key l hl hsp
  | ex c d ss ws =>
    cases ss with
    | nil => exact absurd rfl (hok _ hq).1
    | cons p r =>
      have := key (srow d P3 p.2) (List.mem_cons_self ..) (spaces_P d P3 p.2 (by decide))
      rw [lead_srow] at this
      show _ ≤ d + s
      omega
theorem cutsB_mem : ∀ {ns : List NP} {o : Nat} {c : Nat × Nat × Nat}, c ∈ cutsB o ns → ∃ a c0 D ss ws b, ns = a ++ NP.ex c0 D ss ws :: b ∧ c = (o + (rowsAll a).length, o + (rowsAll a).length + ss.length, o + (rowsAll a).length + ss.length + ws.length)
  | .txt ls :: r, o, c, h => by
    obtain ⟨a, c0, D, ss, ws, b, rfl, e⟩ := cutsB_mem (ns := r) h
    refine ⟨.txt ls :: a, c0, D, ss, ws, b, rfl, ?_⟩
    rw [e, rowsAll_cons, List.length_append, show (NP.txt ls).rows.length = ls.length from rfl, ← Nat.add_assoc]
  | .ex c0 D ss ws :: r, o, c, h => by
    rcases List.mem_cons.mp h with e | h
    · exact ⟨[], c0, D, ss, ws, r, rfl, e⟩
    · obtain ⟨a, c1, D1, ss1, ws1, b, rfl, e⟩ := cutsB_mem (ns := r) h
      refine ⟨.ex c0 D ss ws :: a, c1, D1, ss1, ws1, b, rfl, ?_⟩
      have el : (NP.ex c0 D ss ws).rows.length = ss.length + ws.length := by
        show (srows D ss ++ ws.map (sps D ++ ·)).length = _
        rw [List.length_append, srows_len, List.length_map]
      rw [e, rowsAll_cons, List.length_append, el, ← Nat.add_assoc, ← Nat.add_assoc]
theorem expT_id {l : List Nat} (h : okc l = true) : ∀ col, Mun.expT 8 col l = l := by
  induction l with
  | nil => exact fun _ => rfl
  | cons c r ih =>
    intro col
    unfold okc at h
    rw [List.all_cons, Bool.and_eq_true, Bool.and_eq_true, decide_eq_true_eq, decide_eq_true_eq] at h
    rw [expc (by omega), if_neg (by omega), ih h.2]

/-! ### the text of parts, whole -/
theorem ten_last : ∀ ls : List (List Nat), ls ≠ [] → joinL [10] ls ++ [10] = joinL [10] (ls ++ [[]])
  | [], h => absurd rfl h
  | [a], _ => by
    show a ++ [10] = a ++ ([10] ++ [])
    rfl
  | a :: b :: r, _ => by
    rw [List.cons_append, joinL_more (ps := b :: r) _ _ (List.cons_ne_nil b r), joinL_more (ps := (b :: r) ++ [[]]) _ _ (by simp), ← ten_last (b :: r) (List.cons_ne_nil b r), List.append_assoc, List.append_assoc]
theorem err_same (ls : List (List Nat)) : errP (ls.map (· ++ [10])) = errL ls := by
  cases ls with
  | nil => rfl
  | cons h r =>
    unfold errP errL
    rw [List.map_cons]
    dsimp only
    rw [noNl_fed, List.dropWhile_map]
    have e : ((fun l : List Nat => !wordS l) ∘ (· ++ [10])) = fun l => !wordS l := funext fun l => by
      cases l with
      | nil => 
        show (!(10 == 95 || Txt.isalnum ⟨#[10]⟩)) = !false
        decide +kernel
      | cons c r => rfl
    rw [e]
theorem flat_snoc : ∀ (a : List (List Nat)) (b : List Nat), joinL [] (a ++ [b]) = joinL [] a ++ b
  | [], b => rfl
  | x :: r, b => by rw [List.cons_append, joinL_flat, flat_snoc r b, joinL_flat, List.append_assoc]
theorem exp_rows {ls : List (List Nat)} (h : ∀ l ∈ ls, okc l = true) : ls.map (Mun.expT 8 0) = ls := by
  refine (List.map_congr_left fun l hl => ?_).trans (List.map_id _)
  exact expT_id (h l hl) 0
/-- what the text of parts is, lines moved to the right (R1), back (R) -/
structure Rd (R1 : List (List Nat)) (m : Nat) (e : Bool) (init : List (List Nat)) (last : List Nat) (ls : List (List Nat)) : Prop where
  rows : rowsOf init last = R1.map (·.drop m)
  eq : joinL [10] R1 ++ endL e = joinL [10] ls
  ne : ls ≠ []
  mem : ∀ l ∈ ls, l ∈ R1 ∨ l = []
  lev : levW ls = init ++ [last]
  lst : last = [] ↔ (e = true ∨ R1 = [])
  txt : ∀ o k, 0 < k → o + k ≤ R1.length → mk (joinL [] (((keptOf init last).drop o).take k)) = if (decide (o + k = R1.length) && !e) = true then mk (joinL [] (((R1.drop o).take k).map fun l => l.drop m ++ [10])).dropLast else mk (joinL [] (((R1.drop o).take k).map fun l => l.drop m ++ [10]))
theorem leads_end (R1 : List (List Nat)) : leads (R1 ++ [[]]) = leads R1 := by
  unfold leads
  rw [List.filter_append]
  show (R1.filter _ ++ []).map lead = _
  rw [List.append_nil]
theorem reads (R1 : List (List Nat)) (e : Bool) (h : EndOk R1 e) : ∃ (init : List (List Nat)) (last : List Nat) (ls : List (List Nat)), Rd R1 (leastN (leads R1)) e init last ls := by
  generalize hm : leastN (leads R1) = m
  cases R1 with
  | nil =>
    have e0 := h.1 rfl
    subst e0
    exact ⟨[], [], [[]], rfl, rfl, by simp, fun l hl => .inr (List.mem_singleton.mp hl), rfl, ⟨fun _ => .inr rfl, fun _ => rfl⟩, fun o k hk hl => absurd hl (by show ¬ o + k ≤ 0; omega)⟩
  | cons a r =>
    cases e with
    | true =>
      refine ⟨(a :: r).map (·.drop m), [], (a :: r) ++ [[]], ?_, ten_last _ (by simp), by simp, fun l hl => ?_, ?_, ⟨fun _ => .inl rfl, fun _ => rfl⟩, fun o k hk hl => ?_⟩
      · show _ ++ [] = _
        rw [List.append_nil]
      · rcases List.mem_append.mp hl with h | h
        · exact .inl h
        · exact .inr (List.mem_singleton.mp h)
      · unfold levW
        rw [leads_end, hm, List.map_append]
        congr 1
        show [([] : List Nat).drop m] = _
        rw [List.drop_nil]
      · rw [Bool.not_true, Bool.and_false, if_neg Bool.false_ne_true]
        congr 2
        have ek : keptOf ((a :: r).map fun l : List Nat => l.drop m) [] = ((a :: r).map fun l : List Nat => l.drop m).map (· ++ [10]) ++ [] := rfl
        rw [ek]
        rw [List.append_nil, List.map_map, ← List.map_drop, ← List.map_take]
        rfl
    | false =>
      have hne : (a :: r) ≠ [] := by simp
      have hl' := h.2 rfl _ (List.getLast?_eq_some_getLast hne)
      generalize hR : a :: r = R1 at hne hl' h hm
      have es : R1 = R1.dropLast ++ [R1.getLast hne] := (List.dropLast_concat_getLast hne).symm
      generalize R1.dropLast = i0 at es
      generalize R1.getLast hne = l0 at es hl'
      have hlead : m ≤ lead l0 := by
        have h2 : lead l0 ∈ leads R1 := List.mem_map.mpr ⟨l0, List.mem_filter.mpr ⟨by rw [es]; simp, by rw [hl']; rfl⟩, rfl⟩
        rw [← hm]
        exact (leastN_spec (fun z => by rw [z] at h2; cases h2)).2 _ h2
      have hn0 : (l0.drop m).isEmpty = false := by
        have := spaces_drop (l := l0) hlead
        rw [hl'] at this
        cases hx : l0.drop m with
        | nil =>
          rw [hx] at this
          cases this
        | cons c y => rfl
      have hif : ifAny (l0.drop m) = [l0.drop m] := by
        unfold ifAny
        rw [hn0]
        rfl
      refine ⟨i0.map (·.drop m), l0.drop m, R1, ?_, List.append_nil _, hne, fun l hl => .inl hl, ?_, ⟨fun z => (by rw [z] at hn0; cases hn0), fun z => z.elim (fun z => Bool.noConfusion z) fun z => absurd z hne⟩, fun o k hk hl => ?_⟩
      · unfold rowsOf
        rw [hif, es, List.map_append]
        rfl
      · unfold levW
        rw [hm, es, List.map_append]
        rfl
      · have lr : R1.length = i0.length + 1 := by
          rw [es, List.length_append]
          rfl
        have hlen : ((i0.map (·.drop m)).map (· ++ [10])).length = i0.length := by rw [List.length_map, List.length_map]
        have em : ∀ x : List (List Nat), (x.map (·.drop m)).map (· ++ [10]) = x.map fun l => l.drop m ++ [10] := fun x => List.map_map
        unfold keptOf
        rw [hif, Bool.not_false, Bool.and_true]
        by_cases hk2 : o + k = R1.length
        · rw [decide_eq_true hk2, if_pos rfl, List.drop_append_of_le_length (by omega), List.take_of_length_le (by rw [List.length_append, List.length_drop, hlen]; show _ + 1 ≤ k; omega)]
          have e1 : (R1.drop o).take k = i0.drop o ++ [l0] := by
            rw [es, List.drop_append_of_le_length (by omega), List.take_of_length_le (by rw [List.length_append, List.length_drop]; show _ + 1 ≤ k; omega)]
          rw [e1, List.map_append, flat_snoc]
          show _ = mk (joinL [] (_ ++ [l0.drop m ++ [10]])).dropLast
          rw [flat_snoc, ← List.append_assoc, List.dropLast_concat, em, ← List.map_drop]
        · rw [decide_eq_false hk2, if_neg Bool.false_ne_true, List.drop_append_of_le_length (by omega), List.take_append_of_le_length (by rw [List.length_drop, hlen]; omega)]
          have e1 : (R1.drop o).take k = (i0.drop o).take k := by
            rw [es, List.drop_append_of_le_length (by omega), List.take_append_of_le_length (by rw [List.length_drop]; omega)]
          rw [e1, em, ← List.map_drop, ← List.map_take]
theorem Rd.few {R1 : List (List Nat)} {m : Nat} {e : Bool} {init : List (List Nat)} {last : List Nat} {ls : List (List Nat)} (rd : Rd R1 m e init last ls) {k : Nat} (h : R1.length ≤ k) : ls.length ≤ k + 1 := by
  have h1 := congrArg List.length rd.lev
  have h2 := congrArg List.length rd.rows
  unfold levW at h1
  rw [List.length_map, List.length_append] at h1
  unfold rowsOf at h2
  rw [List.length_append, List.length_map] at h2
  have : [last].length = 1 := rfl
  omega
/-- a piece is what is due -/
def Fit (C D : Addr) (H : Hp) (v : V) : Due → Prop
  | .txt x => v = .str x
  | .com src wt n i => ∃ (q dx : Addr) (fs : List (Str × V)), v = .ref q ∧ H q = some (.ins D dx fs) ∧ CoF fs src wt n i
  | .exa src wt n i er br => ∃ (q dx : Addr) (fs : List (Str × V)), v = .ref q ∧ H q = some (.ins C dx fs) ∧ ExF H fs src wt er n i br
theorem bare_same {ss : List (List Nat × List Nat)} (h : ∀ p ∈ ss, BOk p ∧ plainS p.1) : bareT (ss.map (·.1)) [] = bareLT (ss.map (·.1)) := by
  unfold bareT bareLT
  congr 2
  have ea : rowsOf (ss.map (·.1)) [] = ss.map (·.1) := List.append_nil _
  rw [ea]
  refine List.map_congr_left fun l hl => ?_
  obtain ⟨p, hp, rfl⟩ := List.mem_map.mp hl
  rw [(h p hp).2.2]
theorem fit_all {C D : Addr} {R1 : List (List Nat)} {s m : Nat} {e : Bool} {init ls : List (List Nat)} {last : List Nat} (rd : Rd R1 m e init last ls) {H : Hp} : ∀ (ns : List NP) (pr post : List (List Nat)) (us : List V), (∀ q ∈ ns, q.Ok ∧ q.Off s m) → rowsOf init last = pr ++ (rowsAll (ns.map (NP.lev s m)) ++ post) → PcsAt C D (rowsOf init last) H us (pcsB (keptOf init last) pr.length (ns.map (NP.lev s m))) → Paired (Fit C D H) us (duesB R1 m s e pr.length ns)
  | [], _, _, [], _, _, _ => .nil
  | .txt ts :: r, pr, post, v :: us, ho, hR, hp => by
    obtain ⟨rfl, hp2⟩ := hp
    have hq := (ho _ (List.mem_cons_self ..)).1
    have ih := fit_all rd r (pr ++ (NP.lev s m (.txt ts)).rows) post us (fun q hq => ho q (List.mem_cons_of_mem _ hq)) (by
      rw [hR, List.map_cons, rowsAll_cons, List.append_assoc, List.append_assoc]) (by
      rw [List.length_append]
      exact hp2)
    have el : (NP.lev s m (.txt ts)).rows.length = ts.length := List.length_map _
    have er : (NP.txt ts).rows.length = ts.length := rfl
    rw [List.length_append, el] at ih
    refine .cons ?_ ?_
    · show V.str _ = V.str _
      have hl : pr.length + ts.length ≤ R1.length := by
        have := congrArg List.length (rd.rows.symm.trans hR)
        rw [List.length_map, List.length_append, List.map_cons, rowsAll_cons, List.length_append, List.length_append, el] at this
        omega
      have h0 : 0 < ts.length := Nat.pos_of_ne_zero fun z => hq.1 (List.length_eq_zero_iff.mp z)
      have k := rd.txt pr.length ts.length h0 hl
      have k2 : (ts.map fun l => (shl s l).drop m).length = ts.length := List.length_map _
      show V.str (mk (joinL [] (((keptOf init last).drop pr.length).take (ts.map fun l => (shl s l).drop m).length))) = _
      rw [k2]
      exact congrArg V.str k
    · exact ih
  | .ex c d ss ws :: r, pr, post, v :: us, ho, hR, hp => by
    obtain ⟨hv, hp2⟩ := hp
    have hq := ho _ (List.mem_cons_self ..)
    have el : (NP.lev s m (.ex c d ss ws)).rows.length = ss.length + ws.length := by
      show (srows (d + s - m) ss ++ ws.map (sps (d + s - m) ++ ·)).length = _
      rw [List.length_append, srows_len, List.length_map]
    have er : (NP.ex c d ss ws).rows.length = ss.length + ws.length := by
      show (srows d ss ++ ws.map (sps d ++ ·)).length = _
      rw [List.length_append, srows_len, List.length_map]
    have ih := fit_all rd r (pr ++ (NP.lev s m (.ex c d ss ws)).rows) post us (fun q hq => ho q (List.mem_cons_of_mem _ hq)) (by
      rw [hR, List.map_cons, rowsAll_cons, List.append_assoc, List.append_assoc]) (by
      rw [List.length_append, el, ← Nat.add_assoc]
      exact hp2)
    rw [List.length_append, el] at ih
    refine .cons ?_ (by
      show Paired _ us (duesB R1 m s e (pr.length + (NP.ex c d ss ws).rows.length) r)
      rw [er]
      exact ih)
    have hA : rowsOf init last = pr ++ ((NP.ex c (d + s - m) ss ws).rows ++ (rowsAll (r.map (NP.lev s m)) ++ post)) := by
      rw [hR, List.map_cons, rowsAll_cons, List.append_assoc]
      rfl
    have hok : (NP.ex c (d + s - m) ss ws).Ok := hq.1
    obtain ⟨_, f1, f2, f3⟩ := ex_facts hok pr _ hA
    obtain ⟨q, dx, fs, rfl, k⟩ := hv
    dsimp only at k
    rw [f3, f1, f2] at k
    have ei : ((d + s - m : Nat) : Int) = (d : Int) + s - m := by
      have : m ≤ d + s := hq.2
      omega
    have eo : ((pr.length + 1 : Nat) : Int) = (pr.length : Int) + 1 := rfl
    rw [ei, eo, err_same, bare_same hok.2.1] at k
    have hc := hok.2.2.1
    cases c with
    | true =>
      rw [hc] at k
      have k := (if_pos rfl).mp k
      exact ⟨q, dx, fs, rfl, k.1, k.2⟩
    | false =>
      rw [hc] at k
      have k := (if_neg Bool.false_ne_true).mp k
      exact ⟨q, dx, fs, rfl, k.1, k.2⟩
  | [], _, _, _ :: _, _, _, h => h.elim
  | .txt _ :: _, _, _, [], _, _, h => h.elim
  | .ex _ _ _ _ :: _, _, _, [], _, _, h => h.elim
theorem sim_szAll : ∀ {ps ns : List NP}, SimAll ps ns → (∀ p ∈ ps, p.Sz) → ∀ q ∈ ns, q.Sz
  | p :: r, q :: r', h, hz, x, hx => by
    rcases List.mem_cons.mp hx with rfl | hx
    · exact sim_sz h.1 (hz p (List.mem_cons_self ..))
    · exact sim_szAll h.2 (fun y hy => hz y (List.mem_cons_of_mem _ hy)) x hx
  | [], _ :: _, h, _, _, _ => h.elim
/-- what parsed finds in the text of parts -/
theorem whole_parts {ps ns : List NP} {s : Nat} {e : Bool} (hd : DrawnOk ps) (hs : s ≤ 16) (sim : SimAll ps ns) (ok : ∀ q ∈ ns, q.Ok) (he : EndOk ((rowsAll ns).map (shl s)) e) :
    ∃ (init ls : List (List Nat)) (last : List Nat), Whole (mk (joinL [10] ((rowsAll ns).map (shl s)) ++ endL e)) ls init last ∧ (ls.length ≤ 50 ∧ ∀ l ∈ ls, okc l = true ∧ l.length ≤ 90) ∧ ∀ (C D : Addr) (H : Hp) (us : List V), PcsAt C D (rowsOf init last) H us (piecesL (keptOf init last) 0 (cutsL (rowsOf init last) 0)) → Paired (Fit C D H) us (duesB ((rowsAll ns).map (shl s)) (leastN (leads ((rowsAll ns).map (shl s)))) s e 0 ns) := by
  obtain ⟨hseq, hsz0, h7⟩ := hd
  have hsz := fun p h => (hsz0 p h).1
  have off := off_of (s := s) ok
  have szn : ∀ q ∈ ns, q.Sz ∧ q.Ok := fun q hq => ⟨sim_szAll sim hsz q hq, ok q hq⟩
  have rz := rowsAll_sz szn
  have ln := SimAll.len sim
  have sq := seq_lev (seq_sim hseq sim ok) off
  have lv := rowsAll_lev (s := s) fun q hq => ⟨ok q hq, off q hq⟩
  have rs : ∀ l ∈ (rowsAll ns).map (shl s), szL 90 l := fun l hl => by
    obtain ⟨l', h, rfl⟩ := List.mem_map.mp hl
    have := shl_sz (s := s) (rz.2 l' h)
    exact ⟨this.1, Nat.le_trans this.2 (by omega)⟩
  have rl : ((rowsAll ns).map (shl s)).length ≤ 49 := by
    rw [List.length_map]
    omega
  generalize hR : (rowsAll ns).map (shl s) = R1 at *
  obtain ⟨init, last, ls, rd⟩ := reads R1 e he
  generalize hm : leastN (leads R1) = m at *
  have okl : ∀ l ∈ ls, okc l = true ∧ l.length ≤ 90 := fun l hl => by
    rcases rd.mem l hl with h | h
    · exact rs l h
    · rw [h]
      exact ⟨rfl, Nat.zero_le _⟩
  have e1 : rowsOf init last = rowsAll (ns.map (NP.lev s m)) := rd.rows.trans lv.symm
  have ec : cutsL (rowsOf init last) 0 = cutsB 0 (ns.map (NP.lev s m)) := by
    rw [e1]
    exact cuts_of_parts _ [] sq
  have lx : (joinL [10] R1 ++ endL e).length ≤ 9000 := by
    have : (joinL [10] R1).length ≤ 49 * 91 := by
      have h2 : ∀ x : List (List Nat), (∀ l ∈ x, szL 90 l) → (joinL [10] x).length ≤ x.length * 91 := fun x => by
        induction x with
        | nil => exact fun _ => Nat.zero_le _
        | cons a r ih =>
          intro hx
          have i1 := ih fun l hl => hx l (List.mem_cons_of_mem _ hl)
          have i2 := (hx a (List.mem_cons_self ..)).2
          cases r with
          | nil =>
            show a.length ≤ (0 + 1) * 91
            omega
          | cons b y =>
            rw [joinL_more _ _ (by simp), List.length_append, List.length_append, List.length_cons (a := a)]
            show a.length + (1 + _) ≤ _
            omega
      exact Nat.le_trans (h2 R1 rs) (Nat.mul_le_mul_right 91 rl)
    rw [List.length_append]
    have : (endL e).length ≤ 1 := by
      cases e
      · exact Nat.zero_le _
      · exact Nat.le_refl _
    omega
  refine ⟨init, ls, last, ⟨rd.eq, rd.ne, fun l hl c hc => ?_, lx, ?_, ?_, fun c hc => ?_⟩, ⟨rd.few rl, okl⟩, fun C D H us hp => ?_⟩
  · have := (okl l hl).1
    unfold okc at this
    rw [List.all_eq_true] at this
    have := this c hc
    rw [Bool.and_eq_true, decide_eq_true_eq, decide_eq_true_eq] at this
    omega
  · rw [exp_rows fun l hl => (okl l hl).1]
    exact rd.lev
  · rw [← rd.lev]
    have l1 : (joinL [10] (levW ls)).length ≤ (joinL [10] ls).length := by
      unfold levW
      generalize leastN (leads ls) = k
      have : ∀ x : List (List Nat), (joinL [10] (x.map (·.drop k))).length ≤ (joinL [10] x).length := fun x => by
        induction x with
        | nil => exact Nat.le_refl _
        | cons a r ih =>
          cases r with
          | nil =>
            show (a.drop k).length ≤ a.length
            rw [List.length_drop]
            omega
          | cons b y =>
            rw [List.map_cons, joinL_more _ _ (by simp), joinL_more _ _ (by simp), List.length_append, List.length_append, List.length_append, List.length_append, List.length_drop]
            omega
      exact this ls
    rw [← rd.eq] at l1
    omega
  · rw [ec] at hc
    obtain ⟨a, c0, D0, ss, ws, b, en, rfl⟩ := cutsB_mem hc
    rw [Nat.zero_add]
    have ok0 : (NP.ex c0 D0 ss ws).Ok := sq.mem _ (by rw [en]; simp)
    obtain ⟨f0, f1, f2, f3⟩ := ex_facts ok0 (rowsAll a) (rowsAll b) (A := rowsOf init last) (by rw [e1, en, rowsAll_app, rowsAll_cons])
    refine ⟨f0, fun l hl => ?_⟩
    dsimp only at hl
    rw [f3, f1] at hl
    obtain ⟨p, hp, rfl⟩ := List.mem_map.mp hl
    exact (ok0.2.1 p hp).2.1
  · rw [ec, pieces_of_parts (keptOf init last) _ 0 sq (by
      rw [Nat.zero_add, ← e1]
      unfold keptOf rowsOf
      rw [List.length_append, List.length_append, List.length_map])] at hp
    exact fit_all rd ns [] [] us (fun q hq => ⟨ok q hq, off q hq⟩) (by rw [e1, List.append_nil]; rfl) hp

/-! ### pieces shown -/
def Due.isExa : Due → Bool
  | .exa .. => true
  | _ => false
def Due.ok : Due → Prop
  | .exa _ _ _ _ er _ => ScI er
  | _ => True
theorem Fit.same {C D : Addr} {H H' : Hp} (s : Same H H') {v : V} : ∀ {d : Due}, Fit C D H v d → Fit C D H' v d
  | .txt _, h => h
  | .com _ _ _ _, ⟨q, dx, fs, e, h1, h2⟩ => ⟨q, dx, fs, e, s _ _ h1, h2⟩
  | .exa _ _ _ _ _ _, ⟨q, dx, fs, e, h1, h2⟩ => by
    obtain ⟨o, o1, o2⟩ := h2.options
    exact ⟨q, dx, fs, e, s _ _ h1, h2.source, h2.want, h2.error, h2.line, h2.indent, ⟨o, o1, s _ _ o2⟩, h2.bare⟩
/-- the heap without a place -/
def cutH (C : Addr) (H : Hp) : Hp := fun b => if b = C then none else H b
theorem cutH_ne {C b : Addr} {H : Hp} (h : b ≠ C) : cutH C H b = H b := if_neg h
theorem cutH_le (C : Addr) (H : Hp) : Same (cutH C H) H := fun b o e => by
  unfold cutH at e
  split at e
  · cases e
  · exact e
theorem cutH_same {C : Addr} {H H' : Hp} (s : Same H H') : Same (cutH C H) (cutH C H') := fun b o e => by
  unfold cutH at e ⊢
  split at e
  · cases e
  · rename_i hb
    rw [if_neg hb]
    exact s b o e
theorem cutH_upd (C : Addr) (H : Hp) (o : HO) : cutH C (upd H C o) = cutH C H := funext fun b => by
  unfold cutH
  split
  · rfl
  · rename_i hb
    exact upd_ne hb
theorem cutH_base {C : Addr} {H H' : Hp} (s : Same H H') (n : H C = none) : Same H (cutH C H') := fun b o e => by
  rw [cutH_ne (ne_of_none e n)]
  exact s b o e
theorem shown_fit {CE CC z C : Addr} {av : List Addr} {H0 H : Hp} {Q : VK} {E : XK} {v : V} {t : Addr} {d : Due} {oC : HO} (fit : Fit CE CC H0 v d) (due : DueAt z av H0 t d) (ok : d.ok) (s0 : Same H0 (cutH C H)) (eC : H C = some oC) (k : ∀ (H' : Hp) (T : Addr), Same H H' → Sam1 (cutH C H') (.ref T) (.ref t) → Q (.ref T) H') : sp_law_shown CE CC [v] H Q E := by
  have sH : Same H0 H := s0.trans (cutH_le C H)
  cases d with
  | txt x =>
    refine ⟨v, rfl, .inl ⟨x, fit, fun H' T s n eT => k H' T s ⟨T, t, _, _, rfl, rfl, (cutH_ne (ne_of_none eC n).symm).trans eT, cutH_same s _ _ (s0 _ _ due), .cons (.inl ⟨.inr (.inl ⟨_, rfl⟩), rfl⟩) (.cons (.inl ⟨.inr (.inl ⟨_, rfl⟩), rfl⟩) .nil), by show 2 ≤ 100; decide⟩⟩⟩
  | com src wt n i =>
    obtain ⟨q, dx, fs, rfl, eq, cf⟩ := fit.same sH
    refine ⟨_, rfl, .inr (.inl ⟨q, dx, fs, src, wt, n, i, rfl, eq, cf, fun H' T s n eT => k H' T s ⟨T, t, _, _, rfl, rfl, (cutH_ne (ne_of_none eC n).symm).trans eT, cutH_same s _ _ (s0 _ _ due), .cons (.inl ⟨.inr (.inl ⟨_, rfl⟩), rfl⟩) (.cons (.inl ⟨.inr (.inl ⟨_, rfl⟩), rfl⟩) (.cons (.inl ⟨.inr (.inl ⟨_, rfl⟩), rfl⟩) (.cons (.inl ⟨.inr (.inr ⟨_, rfl⟩), rfl⟩) (.cons (.inl ⟨.inr (.inr ⟨_, rfl⟩), rfl⟩) .nil)))), by show 5 ≤ 100; decide⟩⟩)⟩
  | exa src wt n i er br =>
    obtain ⟨q, dx, fs, rfl, eq, ef⟩ := fit.same sH
    obtain ⟨L2, d1, d2, _⟩ := due
    refine ⟨_, rfl, .inr (.inr ⟨q, dx, fs, src, wt, br, er, n, i, rfl, eq, ef, fun H' T L s n nL eL eT => k H' T s ⟨T, t, _, _, rfl, rfl, (cutH_ne (ne_of_none eC n).symm).trans eT, cutH_same s _ _ (s0 _ _ d1), .cons (.inl ⟨.inr (.inl ⟨_, rfl⟩), rfl⟩) (.cons (.inl ⟨.inr (.inl ⟨_, rfl⟩), rfl⟩) (.cons (.inl ⟨.inr (.inl ⟨_, rfl⟩), rfl⟩) (.cons (.inl ⟨.inr (.inr ⟨_, rfl⟩), rfl⟩) (.cons (.inl ⟨.inr (.inr ⟨_, rfl⟩), rfl⟩) (.cons (.inl ⟨ok, rfl⟩) (.cons (.inr ⟨L, L2, rfl, rfl, (cutH_ne (ne_of_none eC nL).symm).trans eL, cutH_same s _ _ (s0 _ _ d2)⟩) (.cons (.inl ⟨.inr (.inl ⟨_, rfl⟩), rfl⟩) .nil))))))), by show 8 ≤ 100; decide⟩⟩)⟩
theorem due_ok (ls : List (List Nat)) (m s : Nat) (e : Bool) (o : Nat) (q : NP) : (dueOf ls m s e o q).ok := by
  cases q with
  | txt ts => exact trivial
  | ex c d ss ws =>
    cases c with
    | true => exact trivial
    | false =>
      show ScI (optV (errL ws))
      cases errL ws with
      | none => exact .inl rfl
      | some l => exact .inr (.inl ⟨_, rfl⟩)
theorem dues_ok (ls : List (List Nat)) (m s : Nat) (e : Bool) : ∀ (ns : List NP) (o : Nat), ∀ d ∈ duesB ls m s e o ns, d.ok
  | [], _, d, h => by cases h
  | q :: r, o, d, h => by
    rcases List.mem_cons.mp h with rfl | h
    · exact due_ok ls m s e o q
    · exact dues_ok ls m s e r _ d h
theorem duesB_len (ls : List (List Nat)) (m s : Nat) (e : Bool) : ∀ (ns : List NP) (o : Nat), (duesB ls m s e o ns).length = ns.length
  | [], _ => rfl
  | q :: r, o => congrArg Nat.succ (duesB_len ls m s e r _)
theorem DuesAt.get {z : Addr} {av : List Addr} {H : Hp} : ∀ {ts : List Addr} {ds : List Due} {i : Nat} {t : Addr} {d : Due}, DuesAt z av H ts ds → ts[i]? = some t → ds[i]? = some d → DueAt z av H t d
  | _ :: _, _ :: _, 0, t, d, h, h1, h2 => by
    cases h1
    cases h2
    exact h.1
  | _ :: _, _ :: _, i + 1, t, d, h, h1, h2 => DuesAt.get (i := i) h.2 h1 h2
  | [], [], _, _, _, _, h1, _ => by cases h1
  | [], _ :: _, _, _, _, h, _, _ => h.elim
  | _ :: _, [], _, _, _, h, _, _ => h.elim
/-- what has been shown of the pieces -/
def Shn (C : Addr) (H0 : Hp) (ts : List Addr) (i : Nat) (H : Hp) : Prop := ∃ xs : List V, H C = some (.lst xs) ∧ Paired (Sam1 (cutH C H)) xs ((ts.take i).map V.ref) ∧ Same H0 (cutH C H)
theorem Shn.begin {C : Addr} {H0 : Hp} {ts : List Addr} (n : H0 C = none) : Shn C H0 ts 0 (upd H0 C (.lst [])) := ⟨[], upd_same, .nil, by
  rw [cutH_upd]
  exact cutH_base (fun _ _ e => e) n⟩
theorem Shn.close {C : Addr} {H0 H : Hp} {ts : List Addr} (h : Shn C H0 ts ts.length H) : ∃ xs : List V, H C = some (.lst xs) ∧ Paired (Sam1 H) xs (ts.map V.ref) ∧ Same H0 H := by
  obtain ⟨xs, e, h1, h2⟩ := h
  rw [List.take_length] at h1
  exact ⟨xs, e, paired_imp (fun _ _ k => k.same (cutH_le C H)) h1, h2.trans (cutH_le C H)⟩
theorem Shn.step {CE CC z C : Addr} {av : List Addr} {H0 H : Hp} {E : XK} {vs : List V} {ts : List Addr} {ds : List Due} {i : Nat} {v : V} (hv : vs[i]? = some v) (fit : Paired (Fit CE CC H0) vs ds) (due : DuesAt z av H0 ts ds) (ok : ∀ d ∈ ds, d.ok) (few : vs.length ≤ 1000) (h : Shn C H0 ts i H) :
    sp_law_shown CE CC [v] H (fun y H4 => ∃ acc, H4 C = some (.lst acc) ∧ acc.length < sizeLine ∧ Shn C H0 ts (i + 1) (upd H4 C (.lst (acc ++ [y])))) E := by
  obtain ⟨xs, e, h1, h2⟩ := h
  have l1 := Paired.length fit
  have l2 := due.len
  have hi : i < vs.length := (List.getElem?_eq_some_iff.mp hv).1
  have hd : ds[i]? = some ds[i] := List.getElem?_eq_getElem (by omega)
  have ht : ts[i]? = some ts[i] := List.getElem?_eq_getElem (by omega)
  refine shown_fit (paired_at fit hv hd) (due.get ht hd) (ok _ (List.getElem_mem _)) h2 e fun H' T s sam => ⟨xs, s _ _ e, ?_, xs ++ [.ref T], upd_same, ?_, ?_⟩
  · have := Paired.length h1
    rw [List.length_map, List.length_take] at this
    exact Nat.lt_of_le_of_lt (show xs.length ≤ 1000 by omega) (by decide)
  · rw [cutH_upd, List.take_add_one, ht, List.map_append]
    exact Paired.snoc (paired_imp (fun _ _ k => k.same (cutH_same s)) h1) sam
  · rw [cutH_upd]
    exact h2.trans (cutH_same s)
theorem DuesAt.same {z : Addr} {av : List Addr} {H H' : Hp} (s : Same H H') : ∀ {ts : List Addr} {ds : List Due}, DuesAt z av H ts ds → DuesAt z av H' ts ds
  | [], [], _ => trivial
  | _ :: _, .txt _ :: _, h => ⟨s _ _ h.1, DuesAt.same s h.2⟩
  | _ :: _, .com _ _ _ _ :: _, h => ⟨s _ _ h.1, DuesAt.same s h.2⟩
  | _ :: _, .exa _ _ _ _ _ _ :: _, ⟨⟨L, a, b, c⟩, h⟩ => ⟨⟨L, s _ _ a, s _ _ b, c⟩, DuesAt.same s h⟩
  | [], _ :: _, h => h.elim
  | _ :: _, [], h => h.elim

/-! ### pieces joined -/
def bodyOf (l : List Nat) : List Nat := if l = [] then [] else 32 :: l
/-- a piece's rows as they are written -/
def wrows (d : Nat) (ss ws : List (List Nat)) : List (List Nat) := srows d (ss.map fun l => (l, bodyOf l)) ++ ws.map (sps d ++ ·)
def proms (n : Nat) : List (List Nat) := P3 :: List.replicate (n - 1) D3
theorem proms_get {n i : Nat} {l : List Nat} (h : (proms n)[i]? = some l) : l = if i = 0 then P3 else D3 := by
  cases i with
  | zero =>
    cases h
    rfl
  | succ i =>
    rw [if_neg (by omega)]
    have h2 : (List.replicate (n - 1) D3)[i]? = some l := h
    exact List.eq_of_mem_replicate (List.mem_of_getElem? h2)
theorem flat_rep (v : V) : ∀ n : Nat, (List.replicate n [v]).flatten = List.replicate n v
  | 0 => rfl
  | n + 1 => by
    rw [List.replicate_succ, List.flatten_cons, flat_rep v n]
    rfl
theorem proms_v (n : Nat) : HO.lst ([V.str ">>>"] ++ (List.replicate ((n : Int) - 1).toNat [V.str "..."]).flatten) = rowsV (proms n) := by
  rw [flat_rep]
  unfold rowsV proms
  have e : ((n : Int) - 1).toNat = n - 1 := by omega
  rw [e, List.map_cons, List.map_cons, List.map_replicate, List.map_replicate, ← gt3, ← dots3]
  rfl
def hrows (ss : List (List Nat)) : List (List Nat) := srows 0 (ss.map fun l => (l, bodyOf l))
theorem hrows_len (ss : List (List Nat)) : (hrows ss).length = ss.length := by
  unfold hrows
  rw [srows_len, List.length_map]
theorem hrows_get {ss : List (List Nat)} {i : Nat} {l : List Nat} (h : ss[i]? = some l) : (hrows ss)[i]? = some ((if i = 0 then P3 else D3) ++ bodyOf l) := by
  cases ss with
  | nil => cases h
  | cons a r =>
    cases i with
    | zero =>
      cases h
      rfl
    | succ i =>
      have h2 : r[i]? = some l := h
      show ((r.map fun l => (l, bodyOf l)).map fun q => srow 0 D3 q.2)[i]? = _
      rw [List.map_map, List.getElem?_map, h2, if_neg (by omega)]
      rfl
theorem hrows_wr (d : Nat) (ss ws : List (List Nat)) : (hrows ss ++ ws).map (sps d ++ ·) = wrows d ss ws := by
  unfold wrows hrows
  rw [List.map_append]
  congr 1
  cases ss with
  | nil => rfl
  | cons a r =>
    show (sps d ++ srow 0 P3 (bodyOf a)) :: ((r.map fun l => (l, bodyOf l)).map fun q => srow 0 D3 q.2).map (sps d ++ ·) = srow d P3 (bodyOf a) :: (r.map fun l => (l, bodyOf l)).map fun q => srow d D3 q.2
    rw [List.map_map]
    rfl
theorem rows_nil {ls : List (List Nat)} (h : Rows10 ls) : Rows10 (ls ++ [[]]) := fun l hl => by
  rcases List.mem_append.mp hl with h' | h'
  · exact h l h'
  · rw [List.mem_singleton.mp h']
    exact nofun
section
variable {P : Program} {w : World} {K : PySem.W.Frag} {mg : Str → Option Value} {base : Heap}
def sp_written (C D : Addr) : Sp := fun vs H Q _ => ∃ (q cls dx : Addr) (fs : List (Str × V)) (ss ws : List (List Nat)) (d : Nat), vs = [.ref q] ∧ (cls = C ∨ cls = D) ∧ H q = some (.ins cls dx fs) ∧ fs.lookup ("source" : Str) = some (.str (rowsT ss)) ∧ fs.lookup ("want" : Str) = some (.str (rowsT ws)) ∧ fs.lookup ("indent" : Str) = some (.int (d : Int)) ∧ ss ≠ [] ∧ Rows10 ss ∧ Rows10 ws ∧ (∀ l ∈ ss, l.length ≤ 100) ∧ (∀ l ∈ ws, l.length ≤ 100) ∧ ss.length ≤ 50 ∧ ws.length ≤ 50 ∧ d ≤ 100 ∧
  ∀ H', Same H H' → Q (.str (rowsT (wrows d ss ws))) H'
theorem ok_written {f : Addr} {fd : FuncData} {dvs : List V} (F : Fn K "written" s_written dvs f fd) {C_Example : Addr} (T_Example : Txt_Example K mg C_Example) {C_Comment : Addr} (T_Comment : Txt_Comment K mg C_Comment) (O_lines_of : Own P w K mg base "lines_of" 2 ["text"] [] (sp_lines_of)) (m_len : mg "len" = none) (m_zip : mg "zip" = none) {t_FURTHER : Tok} (c_FURTHER : mg "FURTHER" = some (.str "..." t_FURTHER)) {t_PROMPT : Tok} (c_PROMPT : mg "PROMPT" = some (.str ">>>" t_PROMPT)) : FnOk P w K mg base CX0 3 f fd ["piece"] (sp_written C_Example C_Comment) := by
  refine Fn.okN F sc_written (fun vs H Q E h => ?_) (fun cdv A outer s H vs Q E hr h => ?_)
  · obtain ⟨_, _, _, _, _, _, _, rfl, _⟩ := h
    rfl
  · obtain ⟨q, cls, dx, fs, ss, ws, d, rfl, hcls, eq, fsrc, fwt, find, hne, h10, w10, hs, hw, ls, lw, hd, k⟩ := h
    refine ⟨_, (pss_cons (ps_set (i := 1) sc_written.nd rfl (.inl rfl) (pe_own O_lines_of (hr.mono (by decide)) (by rfl) (pa_cons (pe_fldK (K' := K) rfl (pv 0) rfl) pa_nil)))
      (pss_cons (ps_set (i := 2) sc_written.nd rfl (.inl rfl) (pe_op op_cat (pe_lst (pa_cons (pe_glob (v := .str ">>>") rfl c_PROMPT ⟨_, rfl⟩) pa_nil)) (pe_op op_rep (pe_lst (pa_cons (pe_glob (v := .str "...") rfl c_FURTHER ⟨_, rfl⟩) pa_nil)) (pe_op op_sub (pe_callB call_len_seq (by rfl) m_len PySem.boot_len (pa_cons (pv 1) pa_nil)) pe_int))))
      (pss_cons (ps_setLc (i := 3) (own := [("prompt", 4), ("line", 5)]) (g := gTup K 2 (gCons (gName 4) (gCons (gName 5) gNil))) (tt := tYes) (by rfl) sc_written.nd rfl rfl (sw_true rfl rfl rfl (by decide +kernel)) (pi_zip (by rfl) m_zip (pa_cons (pv 2) (pa_cons (pv 1) pa_nil))) (blkOk_by (own := [("prompt", 4), ("line", 5)]) (N := ["piece", "sources", "prompts", "rows", "prompt", "line", "row"]) (sc := defScope s_written) (by decide +kernel)) (fun _ _ _ _ _ => (pg_tup rfl (pgs_cons (pg_name (i := 4) sc_written.nd rfl (.inl rfl)) (pgs_cons (pg_name (i := 5) sc_written.nd rfl (.inl rfl)) pgs_nil)))) (fun _ _ _ _ _ => pts_nil) (fun _ _ _ _ _ => (pe_ifExp (pt_tr (K' := K) (pv 5)) (pe_joined (PJ.cons (pe_fmt (pv 4)) (PJ.cons pe_str (PJ.cons (pe_fmt (pv 5)) PJ.nil)))) (pv 4))))
      (pss_one (ps_ret (pe_m1 PySem.F.slot_str_join PySem.F.type_str_join mt_join pe_str (pe_lc (own := [("row", 6)]) (g := gName 6) (tt := tYes) (by rfl) sc_written.nd (pi_list (pe_op op_cat (pv 3) (pe_own O_lines_of (hr.mono (by decide)) (by rfl) (pa_cons (pe_fldK (K' := K) rfl (pv 0) rfl) pa_nil)))) (blkOk_by (own := [("row", 6)]) (N := ["piece", "sources", "prompts", "rows", "prompt", "line", "row"]) (sc := defScope s_written) (by decide +kernel)) (fun _ _ _ _ _ => (pg_name (i := 6) sc_written.nd rfl (.inl rfl))) (fun _ _ _ _ _ => pts_nil) (fun _ _ _ _ _ => (pe_op op_add_str (pe_op op_add_str (pe_op op_repS pe_str (pe_fldK (K' := K) rfl (pv 0) rfl)) (pv 6)) pe_str))))))))), ?_⟩
    obtain ⟨cl, nS, nW, nI⟩ : Cls K cls ∧ NoAttr K cls "source" ∧ NoAttr K cls "want" ∧ NoAttr K cls "indent" := by
      rcases hcls with rfl | rfl
      · exact ⟨T_Example.cl, T_Example.n_source, T_Example.n_want, T_Example.n_indent⟩
      · exact ⟨T_Comment.cl, T_Comment.n_source, T_Comment.n_want, T_Comment.n_indent⟩
    have zz : ∀ x : List (List Nat), (∀ l ∈ x, l.length ≤ 100) → x.length ≤ 50 → (rowsT x).length ≤ 10000 := fun x h1 h2 => by
      have := sum_le_of h1
      show (mk _).length ≤ _
      rw [mk_len, flat_len]
      omega
    have ro : ∀ x : List (List Nat), rowsOf x [] = x := fun x => List.append_nil _
    refine ⟨.ref q, rfl, q, cls, dx, fs, _, rfl, eq, cl, nS, fsrc, rowsT ss, ss, [], rfl, (join_ten ss).symm, rows_nil h10, zz ss hs ls, fun H1 p s1 np ep => ?_⟩
    rw [ro] at ep
    have n0 : 1 ≤ ss.length := Nat.pos_of_ne_zero fun z => hne (List.length_eq_zero_iff.mp z)
    refine ⟨by show 1 ≤ sizeLine; decide, fun A nA => ⟨by show 1 ≤ sizeLine; decide, fun B nB => ?_⟩⟩
    have sA := same_new (o := .lst [.str ">>>"]) nA
    have eA : (upd H1 A (.lst [.str ">>>"])) A = some (.lst [.str ">>>"]) := upd_same
    generalize upd H1 A (.lst [.str ">>>"]) = H2 at sA eA nB ⊢
    have sB := same_new (o := .lst [.str "..."]) nB
    have eB : (upd H2 B (.lst [.str "..."])) B = some (.lst [.str "..."]) := upd_same
    have eA := sB _ _ eA
    have s3 := s1.trans (sA.trans sB)
    have ep := sB _ _ (sA _ _ ep)
    generalize upd H2 B (.lst [.str "..."]) = H3 at eA eB s3 ep ⊢
    refine ⟨.ref p, rfl, p, _, rfl, .inl (SqL.of ep), _, _, rfl, rfl, B, _, _, rfl, rfl, eB, ?_, ?_, ?_, fun Z nZ => ⟨A, Z, _, _, rfl, rfl, same_new nZ _ _ eA, upd_same, ?_, fun R nR => ?_⟩⟩
    · rw [rowsV_len]
      omega
    · rw [rowsV_len]
      omega
    · rw [rowsV_len]
      exact Nat.le_trans (show 1 * ((ss.length : Int) - 1).toNat ≤ 100 by omega) (by decide)
    · rw [rowsV_len, flat_rep, List.length_replicate]
      exact Nat.le_trans (show 1 + ((ss.length : Int) - 1).toNat ≤ 100 by omega) (by decide)
    have nZ0 := nZ
    have s4 := s3.trans (same_new (o := .lst (List.replicate (((((ss.map mk).map V.str).length : Nat) : Int) - 1).toNat [V.str "..."]).flatten) nZ)
    have ep4 := (same_new (o := .lst (List.replicate (((((ss.map mk).map V.str).length : Nat) : Int) - 1).toNat [V.str "..."]).flatten) nZ) _ _ ep
    generalize upd H3 Z _ = H4 at s4 ep4 nR ⊢
    rw [rowsV_len, proms_v]
    have sR := same_new (o := rowsV (proms ss.length)) nR
    have eR : (upd H4 R (rowsV (proms ss.length))) R = some (rowsV (proms ss.length)) := upd_same
    have s5 := s4.trans sR
    have ep5 := sR _ _ ep4
    generalize upd H4 R (rowsV (proms ss.length)) = H5 at eR s5 ep5 ⊢
    have lp : (proms ss.length).length = ss.length := by
      show (List.replicate _ _).length + 1 = _
      rw [List.length_replicate]
      omega
    refine ⟨.ref R, rfl, .ref p, rfl, R, p, _, _, rfl, SqL.of eR, SqL.of ep5, fun C nC => ?_⟩
    refine lc_zip (K := K) (a := R) (b := p) (xs := ((proms ss.length).map mk).map V.str) (ys := (ss.map mk).map V.str) (by rw [rowsV_len, rowsV_len, lp]) (fun i H6 => H6 C = some (rowsV ((hrows ss).take i)) ∧ Same H5 H6) ⟨upd_same, same_new nC⟩ (fun i H6 h => ⟨SqL.of (h.2 _ _ eR), SqL.of (h.2 _ _ ep5)⟩) ?_ ?_
    · rintro i x y T H6 hx hy ⟨eC, s6⟩ nT
      obtain ⟨_, rfl, hz⟩ := str_at hx
      rw [List.getElem?_map] at hz
      obtain ⟨pr, hpr, rfl⟩ := Option.map_eq_some_iff.mp hz
      obtain ⟨_, rfl, hz⟩ := str_at hy
      rw [List.getElem?_map] at hz
      obtain ⟨l, hl, rfl⟩ := Option.map_eq_some_iff.mp hz
      have epr := proms_get hpr
      have ehr := hrows_get hl
      rw [← epr] at ehr
      have sT := same_new (o := .tup [V.str (mk pr), .str (mk l)]) nT
      have lpr : pr.length = 3 := by
        rw [epr]
        split <;> rfl
      have ll := hs l (List.mem_of_getElem? hl)
      refine ⟨T, [.str (mk pr), .str (mk l)], rfl, SqT.of upd_same, rfl, _, _, rfl, _, _, rfl, rfl, rfl, ?_⟩
      unfold tYes
      show ite (true = true) _ _
      rw [if_pos rfl]
      have eC7 := sT _ _ eC
      have s7 := s6.trans sT
      generalize upd H6 T (.tup [V.str (mk pr), .str (mk l)]) = H7 at eC7 s7 ⊢
      have hi : i < ss.length := (List.getElem?_eq_some_iff.mp hl).1
      have fin : ∀ y : Str, tl y = pr ++ bodyOf l → ∃ acc, H7 C = some (.lst acc) ∧ acc.length < sizeLine ∧ (upd H7 C (.lst (acc ++ [V.str y]))) C = some (rowsV ((hrows ss).take (i + 1))) ∧ Same H5 (upd H7 C (.lst (acc ++ [V.str y]))) := fun y hy => by
        refine ⟨_, eC7, ?_, ?_, fun b o e => ?_⟩
        · rw [rowsV_len, List.length_take]
          exact Nat.lt_of_le_of_lt (show min i _ ≤ 100 by omega) (by decide)
        · rw [upd_same, List.take_add_one, ehr, ← hy]
          exact congrArg some (rowsV_snoc _ y)
        · rw [upd_ne (ne_of_none e nC)]
          exact s7 b o e
      have lnl : (mk l).length ≤ sizeLine := line_of (by rw [mk_len]; omega)
      have lnp : (mk pr).length ≤ sizeLine := line_of (by rw [mk_len]; omega)
      refine ⟨.str (mk l), rfl, _, ⟨lnl, rfl⟩, ?_⟩
      cases l with
      | nil => exact iteF ⟨.str (mk pr), rfl, fin (mk pr) (List.append_nil _).symm⟩
      | cons c r =>
        rw [show (((mk (c :: r)).length : Int) != 0) = true by rw [mk_len, bne_iff_ne, List.length_cons]; omega]
        have l1 : (" " : Str).length = 1 := rfl
        have e1 : Str.empty ++ mk pr = mk pr := ext_tl (by rw [tl_append]; rfl)
        have e2 : mk pr ++ (" " : Str) = mk (pr ++ [32]) := ext_tl (by rw [tl_append]; rfl)
        have e3 : mk (pr ++ [32]) ++ mk (c :: r) = mk (pr ++ [32] ++ (c :: r)) := ext_tl (by rw [tl_append]; rfl)
        refine iteT ⟨.str (mk pr), rfl, .inl ⟨mk pr, rfl, lnp, mk pr, rfl, ?_, " ", rfl, ?_, .str (mk (c :: r)), rfl, .inl ⟨mk (c :: r), rfl, lnl, mk (c :: r), rfl, ?_, ?_⟩⟩⟩
        · rw [e1]
          exact lnp
        · rw [e1, e2, mk_len, List.length_append]
          exact line_of (show pr.length + 1 ≤ _ by omega)
        · rw [e1, e2, e3, mk_len, List.length_append, List.length_append]
          exact line_of (show pr.length + 1 + (c :: r).length ≤ _ by omega)
        · refine fin _ ?_
          rw [e1, e2, e3]
          show pr ++ [32] ++ (c :: r) = pr ++ (32 :: c :: r)
          rw [List.append_assoc]
          rfl
    · rintro H6 ⟨eC, s6⟩
      rw [rowsV_len, lp, ← hrows_len, List.take_length] at eC
      have s16 := s5.trans s6
      refine ⟨⟨_, rfl⟩, .ref C, rfl, .ref q, rfl, q, cls, dx, fs, _, rfl, s16 _ _ eq, cl, nW, fwt, rowsT ws, ws, [], rfl, (join_ten ws).symm, rows_nil w10, zz ws hw lw, fun H7 p7 s7 np7 ep7 => ?_⟩
      rw [ro] at ep7
      have hl := hrows_len ss
      have ev : HO.lst (((hrows ss).map mk).map V.str ++ (ws.map mk).map V.str) = rowsV (hrows ss ++ ws) := by
        unfold rowsV
        rw [List.map_append, List.map_append]
      refine ⟨C, p7, _, _, rfl, rfl, s7 _ _ eC, ep7, ?_, fun U nU => ?_⟩
      · rw [rowsV_len, rowsV_len]
        exact Nat.le_trans (show _ ≤ 100 by omega) (by decide)
      rw [ev]
      have sU := same_new (o := rowsV (hrows ss ++ ws)) nU
      have eU : (upd H7 U (rowsV (hrows ss ++ ws))) U = some (rowsV (hrows ss ++ ws)) := upd_same
      have s8 := s16.trans (s7.trans sU)
      generalize upd H7 U (rowsV (hrows ss ++ ws)) = H8 at eU s8 ⊢
      have eq8 := s8 _ _ eq
      have rl : ∀ r ∈ hrows ss ++ ws, r.length ≤ 110 := fun r hr => by
        rcases List.mem_append.mp hr with h | h
        · obtain ⟨j, hj⟩ := List.getElem?_of_mem h
          have hj2 : j < ss.length := by
            have := (List.getElem?_eq_some_iff.mp hj).1
            omega
          have := hrows_get (List.getElem?_eq_getElem hj2)
          rw [this] at hj
          cases hj
          have h1 := hs _ (List.getElem_mem hj2)
          have h2 : (bodyOf ss[j]).length ≤ ss[j].length + 1 := by
            unfold bodyOf
            split
            · exact Nat.zero_le _
            · exact Nat.le_refl _
          have h3 : (if j = 0 then P3 else D3).length = 3 := by split <;> rfl
          rw [List.length_append, h3]
          omega
        · have := hw r h
          omega
      have lr : (hrows ss ++ ws).length ≤ 100 := by
        rw [List.length_append]
        omega
      have ls0 : (sps d).length = d := List.length_replicate
      refine ⟨U, rfl, ⟨_, SqL.of eU⟩, fun C2 nC2 => lc_list (K := K) (a := U) (xs := ((hrows ss ++ ws).map mk).map V.str) (fun i H9 => H9 C2 = some (rowsV (((hrows ss ++ ws).take i).map fun r => sps d ++ r ++ [10])) ∧ Same H8 H9) ⟨upd_same, same_new nC2⟩ (fun i H9 _ h => SqL.of (h.2 _ _ eU)) ?_ ?_⟩
      · rintro i v H9 hv ⟨eC2, s9⟩
        obtain ⟨_, rfl, hz⟩ := str_at hv
        rw [List.getElem?_map] at hz
        obtain ⟨r, hr, rfl⟩ := Option.map_eq_some_iff.mp hz
        have lr1 := rl r (List.mem_of_getElem? hr)
        have hi : i < (hrows ss ++ ws).length := (List.getElem?_eq_some_iff.mp hr).1
        have en : ("\n" : Str) = mk [10] := ten_eq
        have e1 : Txt.mul " " (d : Int) ++ mk r = mk (sps d ++ r) := ext_tl (by
          rw [tl_append, mul_sps]
          rfl)
        have e2 : mk (sps d ++ r) ++ ("\n" : Str) = mk (sps d ++ r ++ [10]) := by
          rw [en]
          exact ext_tl (tl_append _ _)
        refine ⟨rfl, ?_⟩
        unfold tYes
        show ite (true = true) _ _
        rw [if_pos rfl]
        refine ⟨.ref q, rfl, q, cls, dx, fs, _, rfl, s9 _ _ eq8, cl, nI, find, " ", (d : Int), rfl, rfl, mulOk_sp (by omega), .str (mk r), rfl, _, _, rfl, rfl, ?_, _, _, rfl, rfl, ?_, _, eC2, ?_, ?_, fun b o e => ?_⟩
        · rw [mul_sps, mk_len, mk_len, ls0]
          exact line_of (by omega)
        · rw [e1, en, mk_len, mk_len, List.length_append, ls0]
          exact line_of (show d + r.length + 1 ≤ _ by omega)
        · rw [rowsV_len, List.length_map, List.length_take]
          exact Nat.lt_of_le_of_lt (show min i _ ≤ 100 by omega) (by decide)
        · rw [upd_same, List.take_add_one, hr, List.map_append, e1, e2]
          exact congrArg some (rowsV_snoc _ (mk (sps d ++ r ++ [10])))
        · rw [upd_ne (ne_of_none e nC2)]
          exact s9 b o e
      · rintro H9 ⟨eC2, s9⟩
        rw [rowsV_len, List.take_length] at eC2
        have e0 : ("" : Str).length = 0 := by decide +kernel
        have e00 : ("" : Str) = mk [] := ext_tl (by decide +kernel)
        have hq : ∀ l ∈ (hrows ss ++ ws).map (fun r => sps d ++ r ++ [10]), l.length ≤ 300 := fun l h => by
          obtain ⟨r, hr, rfl⟩ := List.mem_map.mp h
          have := rl r hr
          rw [List.length_append, List.length_append, ls0]
          show d + r.length + 1 ≤ _
          omega
        have sb := sum_le_of hq
        rw [List.length_map] at sb
        refine ⟨"", C2, _, rfl, rfl, .inl (SqL.of eC2), ?_, ?_⟩
        · rw [e0, Nat.mul_zero, List.map_map]
          show (((hrows ss ++ ws).map fun r => sps d ++ r ++ [10]).map (·.length)).sum + 0 ≤ _
          omega
        · rw [e00, join_mk]
          have ew : (hrows ss ++ ws).map (fun r => sps d ++ r ++ [10]) = (wrows d ss ws).map (· ++ [10]) := by
            rw [← hrows_wr, List.map_map]
            rfl
          rw [ew]
          exact k _ (s8.trans s9)
end

/-! ### joined -/
section
variable {X : Cx}
def iSeq (K : PySem.W.Frag) (tl : TE) : TI := fun σ H R => tl σ H fun x H1 => ∃ a, x = .ref a ∧ ((∃ xs, SqL K H1 a xs) ∧ R (Itl K a) H1 ∨ (∃ xs, SqT K H1 a xs) ∧ R (Itt K a) H1)
theorem pi_seq {tg l : Expr} {tl : TE} (hl : PE X l tl) : PI X tg l (iSeq X.K tl) := by
  refine ⟨fun pins s σ H R I h => ?_⟩
  refine thn (hl.run pins s σ H _ I h) fun v s1 ⟨x, H1, I1, r1, q1⟩ => ?_
  obtain ⟨a, e, q⟩ := q1
  subst e
  cases r1
  rcases q with ⟨⟨xs, hq⟩, q⟩ | ⟨⟨xs, hq⟩, q⟩
  · obtain ⟨its, rv, p, hz⟩ := I1.list hq
    refine wpAny_pyIter_list p.isList ?_
    refine ⟨s1.heap.objs.size, [s1.heap.objs.size], _, _, H1, rfl, I1.kept (t' := s1.toks) fun b o e => Heap.get?_push_of_some _ e, turn_list a _, ⟨_, Heap.get?_push_size _ rfl, rfl, rfl⟩, fun b hb => ?_, q⟩
    have e : b = s1.heap.objs.size := by simpa using hb
    subst e
    exact I1.fpOk (Nat.le_refl _) (I1.hok.fresh (Nat.le_refl _))
  · obtain ⟨its, rv, p, hz⟩ := I1.tuple hq
    refine wpAny_pyIter_tuple (show s1.heap.IsTuple a its.toArray from p) ?_
    refine ⟨s1.heap.objs.size, [s1.heap.objs.size], _, _, H1, rfl, I1.kept (t' := s1.toks) fun b o e => Heap.get?_push_of_some _ e, turn_tuple a _, ⟨_, Heap.get?_push_size _ rfl, rfl, rfl⟩, fun b hb => ?_, q⟩
    have e : b = s1.heap.objs.size := by simpa using hb
    subst e
    exact I1.fpOk (Nat.le_refl _) (I1.hok.fresh (Nat.le_refl _))
end


/-- a piece to be joined: a text, or rows to be written -/
abbrev Pc := List Nat ⊕ (Nat × List (List Nat) × List (List Nat))
def pcT : Pc → List Nat
  | .inl x => x
  | .inr (d, ss, ws) => joinL [] ((wrows d ss ws).map (· ++ [10]))
def PcOk (C D : Addr) (H : Hp) (v : V) : Pc → Prop
  | .inl x => v = .str (mk x) ∧ x.length ≤ 5000
  | .inr (d, ss, ws) => ∃ (q cls dx : Addr) (fs : List (Str × V)), v = .ref q ∧ (cls = C ∨ cls = D) ∧ H q = some (.ins cls dx fs) ∧ fs.lookup ("source" : Str) = some (.str (rowsT ss)) ∧ fs.lookup ("want" : Str) = some (.str (rowsT ws)) ∧ fs.lookup ("indent" : Str) = some (.int (d : Int)) ∧ ss ≠ [] ∧ Rows10 ss ∧ Rows10 ws ∧ (∀ l ∈ ss, l.length ≤ 100) ∧ (∀ l ∈ ws, l.length ≤ 100) ∧ ss.length ≤ 50 ∧ ws.length ≤ 50 ∧ d ≤ 100
theorem PcOk.same {C D : Addr} {H H' : Hp} (s : Same H H') {v : V} : ∀ {p : Pc}, PcOk C D H v p → PcOk C D H' v p
  | .inl _, h => h
  | .inr (_, _, _), ⟨q, cls, dx, fs, h1, h2, h3, h4⟩ => ⟨q, cls, dx, fs, h1, h2, s _ _ h3, h4⟩
theorem wrows_len (d : Nat) (ss ws : List (List Nat)) : (wrows d ss ws).length = ss.length + ws.length := by
  unfold wrows
  rw [List.length_append, srows_len, List.length_map, List.length_map]
theorem wrows_le {d : Nat} {ss ws : List (List Nat)} (hs : ∀ l ∈ ss, l.length ≤ 100) (hw : ∀ l ∈ ws, l.length ≤ 100) (hd : d ≤ 100) : ∀ r ∈ wrows d ss ws, r.length ≤ 220 := fun r hr => by
  have ls0 : (sps d).length = d := List.length_replicate
  rw [← hrows_wr] at hr
  obtain ⟨x, hx, rfl⟩ := List.mem_map.mp hr
  rw [List.length_append, ls0]
  rcases List.mem_append.mp hx with h | h
  · obtain ⟨j, hj⟩ := List.getElem?_of_mem h
    have hj2 : j < ss.length := by
      have := (List.getElem?_eq_some_iff.mp hj).1
      rw [hrows_len] at this
      exact this
    have := hrows_get (List.getElem?_eq_getElem hj2)
    rw [this] at hj
    cases hj
    have h1 := hs _ (List.getElem_mem hj2)
    have h2 : (bodyOf ss[j]).length ≤ ss[j].length + 1 := by
      unfold bodyOf
      split
      · exact Nat.zero_le _
      · exact Nat.le_refl _
    have h3 : (if j = 0 then P3 else D3).length = 3 := by split <;> rfl
    rw [List.length_append, h3]
    omega
  · have := hw x h
    omega
theorem PcOk.len {C D : Addr} {H : Hp} {v : V} : ∀ {p : Pc}, PcOk C D H v p → (pcT p).length ≤ 25000
  | .inl _, h => Nat.le_trans h.2 (by decide)
  | .inr (d, ss, ws), ⟨_, _, _, _, _, _, _, _, _, _, _, _, _, h1, h2, h3, h4, h5⟩ => by
    show (joinL [] ((wrows d ss ws).map (· ++ [10]))).length ≤ 25000
    have := sum_le_of (wrows_le h1 h2 h5)
    rw [flat_len]
    rw [wrows_len] at this ⊢
    have : (ss.length + ws.length) * 220 ≤ 100 * 220 := Nat.mul_le_mul_right _ (by omega)
    omega
theorem pcs_len {C D : Addr} {H : Hp} : ∀ {us : List V} {ps : List Pc}, Paired (PcOk C D H) us ps → ∀ x ∈ ps.map pcT, x.length ≤ 25000
  | _, _, .nil, x, hx => by cases hx
  | _, _, .cons h r, x, hx => by
    rcases List.mem_cons.mp hx with rfl | hx
    · exact h.len
    · exact pcs_len r x hx
section
variable {P : Program} {w : World} {K : PySem.W.Frag} {mg : Str → Option Value} {base : Heap}
def sp_joined (C D : Addr) : Sp := fun vs H Q _ => ∃ (p : Addr) (us : List V) (ps : List Pc), vs = [.ref p] ∧ (H p = some (.lst us) ∨ H p = some (.tup us)) ∧ Paired (PcOk C D H) us ps ∧ us.length ≤ 50 ∧
  ∀ H', Same H H' → Q (.str (mk (joinL [] (ps.map pcT)))) H'
theorem ok_joined {f : Addr} {fd : FuncData} {dvs : List V} (F : Fn K "joined" s_joined dvs f fd) {C_Example : Addr} (T_Example : Txt_Example K mg C_Example) {C_Comment : Addr} (T_Comment : Txt_Comment K mg C_Comment) (O_written : Own P w K mg base "written" 3 ["piece"] [] (sp_written C_Example C_Comment)) (m_isinstance : mg "isinstance" = none) (m_str : mg "str" = none) (z_Es : PySem.W.subIn K (.ref C_Example) (.type "str") = some false) (z_Cs : PySem.W.subIn K (.ref C_Comment) (.type "str") = some false) : FnOk P w K mg base CX0 4 f fd ["pieces"] (sp_joined C_Example C_Comment) := by
  refine Fn.okN F sc_joined (fun vs H Q E h => ?_) (fun cdv A outer s H vs Q E hr h => ?_)
  · obtain ⟨_, _, _, rfl, _⟩ := h
    rfl
  · obtain ⟨p, us, ps, rfl, ep, hp, hl, k⟩ := h
    refine ⟨_, (pss_one (ps_ret (pe_m1 PySem.F.slot_str_join PySem.F.type_str_join mt_join pe_str (pe_lc (own := [("piece", 1)]) (g := gName 1) (tt := tYes) (by rfl) sc_joined.nd (pi_seq (pv 0)) (blkOk_by (own := [("piece", 1)]) (N := ["pieces", "piece"]) (sc := defScope s_joined) (by decide +kernel)) (fun _ _ _ _ _ => (pg_name (i := 1) sc_joined.nd rfl (.inl rfl))) (fun _ _ _ _ _ => pts_nil) (fun _ _ _ _ _ => (pe_ifExp (pt_val (pe_callB (call_isiK (K' := K) rfl) (by rfl) m_isinstance (by decide +kernel) (pa_cons (pv 1) (pa_cons (pe_bltn (v := .ty "str") (by rfl) m_str (by decide +kernel) rfl) pa_nil)))) (pv 1) (pe_own O_written (hr.mono (by decide)) (by rfl) (pa_cons (pv 1) pa_nil)))))))), ?_⟩
    have lp := Paired.length hp
    rcases ep with ep | ep
    · refine ⟨⟨_, rfl⟩, .ref p, rfl, p, rfl, .inl ⟨⟨_, SqL.of ep⟩, fun C nC => lc_list (K := K) (a := p) (xs := us) (fun i H2 => H2 C = some (rowsV ((ps.take i).map pcT)) ∧ Same H H2) ⟨upd_same, same_new nC⟩ (fun i H2 _ h => SqL.of (h.2 _ _ ep)) ?_ ?_⟩⟩
      · rintro i v H2 hv ⟨eC, s2⟩
        have hi : i < us.length := (List.getElem?_eq_some_iff.mp hv).1
        have hg : ps[i]? = some ps[i] := List.getElem?_eq_getElem (by omega)
        have ok := (paired_at hp hv hg).same s2
        have fin : ∀ (H3 : Hp), Same H2 H3 → ∃ acc, H3 C = some (.lst acc) ∧ acc.length < sizeLine ∧ (upd H3 C (.lst (acc ++ [V.str (mk (pcT ps[i]))]))) C = some (rowsV ((ps.take (i + 1)).map pcT)) ∧ Same H (upd H3 C (.lst (acc ++ [V.str (mk (pcT ps[i]))]))) := fun H3 s3 => by
          refine ⟨_, s3 _ _ eC, ?_, ?_, fun b o e => ?_⟩
          · rw [rowsV_len, List.length_map, List.length_take]
            exact Nat.lt_of_le_of_lt (show min i _ ≤ 100 by omega) (by decide)
          · rw [upd_same, List.take_add_one, hg, List.map_append]
            exact congrArg some (rowsV_snoc _ _)
          · rw [upd_ne (ne_of_none e nC)]
            exact s3 _ _ (s2 b o e)
        refine ⟨rfl, ?_⟩
        unfold tYes
        show ite (true = true) _ _
        rw [if_pos rfl]
        generalize ps[i] = c at ok fin
        rcases c with x | ⟨d, ss, ws⟩
        · obtain ⟨rfl, lx⟩ := ok
          exact ⟨.str (mk x), rfl, .str (mk x), _, _, _, true, rfl, .ty "str", .base (.str (mk x)), kit_ty (by decide +kernel), true, rfl, iteT ⟨.str (mk x), rfl, fin H2 (fun _ _ e => e)⟩⟩
        · obtain ⟨q, cls, dx, fs, rfl, hc, eq, hrest⟩ := ok
          have ty : TyX K H2 (.ref q) (.ref cls) ∧ PySem.W.subIn K (.ref cls) (.type "str") = some false := by
            rcases hc with rfl | rfl
            · exact ⟨.base (.ins eq T_Example.cl T_Example.ha T_Example.hn T_Example.ht T_Example.hm), z_Es⟩
            · exact ⟨.base (.ins eq T_Comment.cl T_Comment.ha T_Comment.hn T_Comment.ht T_Comment.hm), z_Cs⟩
          obtain ⟨h1, h2, h3, h4, h5, h6, h7, h8, h9, h10, h11⟩ := hrest
          exact ⟨.ref q, rfl, .ref q, _, _, _, false, rfl, .ty "str", ty.1, kit_tyno (by decide +kernel) ty.2, false, rfl, iteF ⟨.ref q, rfl, q, cls, dx, fs, ss, ws, d, rfl, hc, eq, h1, h2, h3, h4, h5, h6, h7, h8, h9, h10, h11, fin⟩⟩
      · rintro H2 ⟨eC, s2⟩
        rw [lp, List.take_length] at eC
        have e0 : ("" : Str).length = 0 := by decide +kernel
        have e00 : ("" : Str) = mk [] := ext_tl (by decide +kernel)
        have sb := sum_le_of (pcs_len hp)
        rw [List.length_map] at sb
        refine ⟨"", C, _, rfl, rfl, .inl (SqL.of eC), ?_, ?_⟩
        · rw [e0, Nat.mul_zero, List.map_map]
          show ((ps.map pcT).map (·.length)).sum + 0 ≤ _
          omega
        · rw [e00, join_mk]
          exact k _ s2
    · refine ⟨⟨_, rfl⟩, .ref p, rfl, p, rfl, .inr ⟨⟨_, SqT.of ep⟩, fun C nC => lc_tup (K := K) (a := p) (xs := us) (fun i H2 => H2 C = some (rowsV ((ps.take i).map pcT)) ∧ Same H H2) ⟨upd_same, same_new nC⟩ (fun i H2 _ h => SqT.of (h.2 _ _ ep)) ?_ ?_⟩⟩
      · rintro i v H2 hv ⟨eC, s2⟩
        have hi : i < us.length := (List.getElem?_eq_some_iff.mp hv).1
        have hg : ps[i]? = some ps[i] := List.getElem?_eq_getElem (by omega)
        have ok := (paired_at hp hv hg).same s2
        have fin : ∀ (H3 : Hp), Same H2 H3 → ∃ acc, H3 C = some (.lst acc) ∧ acc.length < sizeLine ∧ (upd H3 C (.lst (acc ++ [V.str (mk (pcT ps[i]))]))) C = some (rowsV ((ps.take (i + 1)).map pcT)) ∧ Same H (upd H3 C (.lst (acc ++ [V.str (mk (pcT ps[i]))]))) := fun H3 s3 => by
          refine ⟨_, s3 _ _ eC, ?_, ?_, fun b o e => ?_⟩
          · rw [rowsV_len, List.length_map, List.length_take]
            exact Nat.lt_of_le_of_lt (show min i _ ≤ 100 by omega) (by decide)
          · rw [upd_same, List.take_add_one, hg, List.map_append]
            exact congrArg some (rowsV_snoc _ _)
          · rw [upd_ne (ne_of_none e nC)]
            exact s3 _ _ (s2 b o e)
        refine ⟨rfl, ?_⟩
        unfold tYes
        show ite (true = true) _ _
        rw [if_pos rfl]
        generalize ps[i] = c at ok fin
        rcases c with x | ⟨d, ss, ws⟩
        · obtain ⟨rfl, lx⟩ := ok
          exact ⟨.str (mk x), rfl, .str (mk x), _, _, _, true, rfl, .ty "str", .base (.str (mk x)), kit_ty (by decide +kernel), true, rfl, iteT ⟨.str (mk x), rfl, fin H2 (fun _ _ e => e)⟩⟩
        · obtain ⟨q, cls, dx, fs, rfl, hc, eq, hrest⟩ := ok
          have ty : TyX K H2 (.ref q) (.ref cls) ∧ PySem.W.subIn K (.ref cls) (.type "str") = some false := by
            rcases hc with rfl | rfl
            · exact ⟨.base (.ins eq T_Example.cl T_Example.ha T_Example.hn T_Example.ht T_Example.hm), z_Es⟩
            · exact ⟨.base (.ins eq T_Comment.cl T_Comment.ha T_Comment.hn T_Comment.ht T_Comment.hm), z_Cs⟩
          obtain ⟨h1, h2, h3, h4, h5, h6, h7, h8, h9, h10, h11⟩ := hrest
          exact ⟨.ref q, rfl, .ref q, _, _, _, false, rfl, .ty "str", ty.1, kit_tyno (by decide +kernel) ty.2, false, rfl, iteF ⟨.ref q, rfl, q, cls, dx, fs, ss, ws, d, rfl, hc, eq, h1, h2, h3, h4, h5, h6, h7, h8, h9, h10, h11, fin⟩⟩
      · rintro H2 ⟨eC, s2⟩
        rw [lp, List.take_length] at eC
        have e0 : ("" : Str).length = 0 := by decide +kernel
        have e00 : ("" : Str) = mk [] := ext_tl (by decide +kernel)
        have sb := sum_le_of (pcs_len hp)
        rw [List.length_map] at sb
        refine ⟨"", C, _, rfl, rfl, .inl (SqL.of eC), ?_, ?_⟩
        · rw [e0, Nat.mul_zero, List.map_map]
          show ((ps.map pcT).map (·.length)).sum + 0 ≤ _
          omega
        · rw [e00, join_mk]
          exact k _ s2
end

/-! ### a list, and an empty one -/
def rNeE (K : PySem.W.Frag) : R2 := fun x y H Q => ∃ (a b : Addr) (xs : List V), x = .ref a ∧ y = .ref b ∧ SqL K H a xs ∧ SqL K H b [] ∧ Q (.bl (!xs.isEmpty)) H
theorem op_neE {X : Cx} (hu : X.A.units + 64 < cLine) : OpR X (compareOp .NotEq) (rNeE X.K) := by
  intro pins s σ H x y v u Q I rx ry h
  obtain ⟨a, b, xs, rfl, rfl, ha, hb, q⟩ := h
  cases xs with
  | nil =>
    refine op_neD hu pins s σ H _ _ v u Q I rx ry ⟨_, _, .lst ha .nil, .lst hb .nil, shaped_strs [] nofun, shaped_strs [] nofun, ?_⟩
    have ev : PyData.eqv (.list []) (.list []) = true := eqv_nilS []
    rw [ev]
    exact q
  | cons c r =>
    cases (show v = Value.ref a from rx)
    cases (show u = Value.ref b from ry)
    obtain ⟨us, r1, p1, _⟩ := I.list ha
    obtain ⟨ws, r2, p2, _⟩ := I.list hb
    have hsz : (us.toArray.size != ws.toArray.size) = true := by
      rw [List.size_toArray, List.size_toArray, ← r1.length, ← r2.length]
      rfl
    exact SeqAt.RcNeAt.lists_lengths p1.isList p2.isList hsz (by omega) X.prog X.w X.xe _ ⟨.bl true, H, I, rfl, q⟩

/-! ### replacing a text times a number -/
theorem mul_made {prog : Program} {w : World} {A : Around} {E : Value → Shared → Prop} {s : Shared} {x : Str} {t u : Tok} {n : Int} {Q : Value → Shared → Prop} (hok : MulOk x n) (h1 : ¬ n < 1) (h2 : (n == 1 || x.length == 0) = false) (h : Q (.str (Txt.mul x n) s.toks) { s with toks := s.toks + 1 }) : wpAny (model prog w) A (binaryOp .Mult (.str x t) (.int n u)) Q E s := by
  refine PySem.P.mul_str hok.1 hok.2.1 hok.2.2 ?_
  unfold Txt.mul at h
  rw [if_neg h1, h2, if_neg Bool.false_ne_true] at h ⊢
  exact ⟨fits_reps (hok.2.2 h1 h2), h⟩
section
variable {prog : Program} {w : World} {A : Around} {E : Value → Shared → Prop} {s : Shared} {x y z : Str} {u v t : Tok}
theorem replGivesN (x y z : Str) (t u v : Tok) (hu : u ≠ 0) (hv : v ≠ 0) (huv : u ≠ v) (hyz : (y == z) = false) (hb : x.length + (x.length + 1) * z.length ≤ 16777216) {R : Result → Shared → Prop}
    (hq : ∀ t' k, R (.ok (.ret (.str (Txt.replace x y z) t'))) { s with toks := k }) :
    wpAny (model prog w) A.in1 (Builtin.«str.replace» ⟨[.str x t, .str y u, .str z v], []⟩) (fun fin s' => match fin with | .done f => R (.ok f) s' | .again c' => c'.quiet = true ∧ codeAny (model prog w) A c' R s') (fun e s' => R (.error e) s') s := by
  show wpAny _ _ (if ((Builtin.Str.occurrences x y 0 x.length (x.length + 1)).isEmpty || (y.length == 0 && z.length == 0)) = true then (do rule "str.replace.nothing"; PySem.ret (.str x t)) else (do
    let same ← isSame (.str y u) (.str z v)
    if same = true then (do rule "str.replace.old-is-new"; PySem.ret (.str x t)) else if Builtin.Str.tooLong (x.length + (Builtin.Str.occurrences x y 0 x.length (x.length + 1)).length * z.length) = true then unsupported "str.replace:memory" else PySem.retStr (Builtin.Str.glued z (Builtin.Str.partsBetween x (Builtin.Str.occurrences x y 0 x.length (x.length + 1)) y.length)))) _ _ _
  have hl : Builtin.Str.tooLong (x.length + (Builtin.Str.occurrences x y 0 x.length (x.length + 1)).length * z.length) = false := by
    have a := StrLaws.occ_length_le x y 0 x.length (x.length + 1)
    have b := Nat.mul_le_mul_right z.length a
    unfold Builtin.Str.tooLong sizeLine
    exact decide_eq_false (by omega)
  unfold Txt.replace at hq
  cases hc : ((Builtin.Str.occurrences x y 0 x.length (x.length + 1)).isEmpty || (y.length == 0 && z.length == 0)) with
  | true =>
    rw [if_pos rfl]
    rw [hc, if_pos rfl] at hq
    exact wpAny_bind (wpAny_rule (wpAny_pure (hq t s.toks)))
  | false =>
    rw [if_neg Bool.false_ne_true]
    rw [hc, if_neg Bool.false_ne_true] at hq
    refine wpAny_bind ?_
    show wpAny _ _ (isSame.created (y == z) u v) _ _ _
    unfold isSame.created
    rw [if_neg (by simp [hu, hv]), if_neg (by simpa using huv), hyz]
    refine wpAny_pure ?_
    rw [if_neg Bool.false_ne_true, hl, if_neg Bool.false_ne_true]
    exact wpAny_bind (wpAny_mkStr (wpAny_pure (hq _ _)) (fits_replaced y hb))
theorem replace_N {Q : Value → Shared → Prop} (hu : u ≠ 0) (hv : v ≠ 0) (huv : u ≠ v) (hyz : (y == z) = false) (hb : x.length + (x.length + 1) * z.length ≤ 16777216)
    (hq : ∀ t' k, Q (.str (Txt.replace x y z) t') { s with toks := k }) : wpAny (model prog w) A (call (.builtin "str.replace") [.str x t, .str y u, .str z v]) Q E s :=
  wpAny_call (codeAny_call_builtin PySem.F.slot_str_replace.plain PySem.F.entry_str_replace (PySem.F.slot_str_replace.check _ _ _ _ _ _ _ _ (typeIs_str _ _ _) (PySem.F.args_str_replace_3 _ _ _)
    (replGivesN x y z t u v hu hv huv hyz hb (R := fun r s' => match r with | .ok (.ret v) => Q v s' | .ok _ => False | .error e => E e s') hq)))
end
def tReplM (y z : Str) (to : TE) : TE := fun σ H Q => to σ H fun x H1 => ∃ a : Str, x = .str a ∧ a.length + (a.length + 1) * z.length ≤ 16777216 ∧ Q (.str (Txt.replace a y z)) H1
theorem pe_replM {X : Cx} {o : Expr} {to : TE} {y0 z : Str} {n : Int} {j0 j1 j2 : Nat} {c0 c1 c2 bp apos pos : Pos} (ho : PE X o to) (ok : MulOk y0 n) (h1 : ¬ n < 1) (h2 : (n == 1 || y0.length == 0) = false) (hyz : (Txt.mul y0 n == z) = false)
    (hst : starEach [.BinOp (.Constant (.str y0) j0 c0) .Mult (.Constant (.int n) j2 c2) bp, .Constant (.str z) j1 c1] X.env = [(false, eval (.BinOp (.Constant (.str y0) j0 c0) .Mult (.Constant (.int n) j2 c2) bp) X.env), (false, eval (.Constant (.str z) j1 c1) X.env)] := by rfl)
    (hbase : attributeBase o "replace" X.env (eval o X.env) = eval o X.env := by rfl) (hline : (apos.endLine == pos.line) = true := by rfl) : PE X (.Call (.Attribute o "replace" apos) [.BinOp (.Constant (.str y0) j0 c0) .Mult (.Constant (.int n) j2 c2) bp, .Constant (.str z) j1 c1] [] pos) (tReplM (Txt.mul y0 n) z to) := by
  refine ⟨fun pins s σ H Q I h => ?_⟩
  refine PySem.Call_method2 hbase hst hline (thn (ho.run pins s σ H _ I h) fun v s1 ⟨x, H1, I1, r1, a, ex, hb, q⟩ => ?_)
  subst ex
  obtain ⟨tx, rfl⟩ := r1
  refine ⟨"str", _, PySem.F.plainAttrs_str, PySem.F.slot_str_replace, PySem.F.type_str_replace, typeIs_str _ _ _, (fun _ e => nomatch e), Calls.callWith_builtin rfl (Calls.evalArgs_plain (Calls.spliced_cons (wpAny_BinOp (Calls.Constant_str (wpAny_Constant_int (mul_made ok h1 h2 (Calls.spliced_cons (Calls.Constant_str (Calls.spliced_nil ?_)))))))))⟩
  exact replace_N (by simp) (by simp) (by simp) hyz hb fun t' k => ⟨.str _, H1, I1.tok k, ⟨t', rfl⟩, q⟩

/-! ### eight spaces, a tab -/
theorem exp_app (n : Nat) : ∀ (a b : List Nat) (col : Nat), (∀ c ∈ a, c ≠ 10 ∧ c ≠ 13) → Mun.expT n col (a ++ b) = Mun.expT n col a ++ Mun.expT n (col + (Mun.expT n col a).length) b
  | [], b, col, _ => rfl
  | c :: r, b, col, h => by
    have hc := h c (List.mem_cons_self ..)
    have ih := fun k => exp_app n r b k fun x hx => h x (List.mem_cons_of_mem _ hx)
    rw [List.cons_append]
    by_cases h9 : c = 9
    · rw [Mun.expT, if_pos h9, Mun.expT, if_pos h9, ih, List.append_assoc, List.length_append, List.length_replicate, Nat.add_assoc]
    · rw [Mun.expT, if_neg h9, Mun.expT, if_neg h9, if_neg (by omega), ih, List.cons_append, List.length_cons, Nat.add_assoc, Nat.add_comm 1]
theorem exp_col (k : Nat) : ∀ (a : List Nat) (col : Nat), (∀ c ∈ a, c ≠ 10 ∧ c ≠ 13) → Mun.expT 8 (8 * k + col) a = Mun.expT 8 col a
  | [], _, _ => rfl
  | c :: r, col, h => by
    have hc := h c (List.mem_cons_self ..)
    have ih := fun j => exp_col k r j fun x hx => h x (List.mem_cons_of_mem _ hx)
    have em : (8 * k + col) % 8 = col % 8 := by omega
    by_cases h9 : c = 9
    · rw [Mun.expT, if_pos h9, Mun.expT, if_pos h9, em, Nat.add_assoc, ih]
    · rw [Mun.expT, if_neg h9, Mun.expT, if_neg h9, if_neg (by omega), if_neg (by omega), Nat.add_assoc, ih]
theorem okc_no {l : List Nat} (h : okc l = true) : ∀ c ∈ l, c ≠ 10 ∧ c ≠ 13 := fun c hc => by
  unfold okc at h
  rw [List.all_eq_true] at h
  have := h c hc
  rw [Bool.and_eq_true, decide_eq_true_eq, decide_eq_true_eq] at this
  omega
def rp (l : List Nat) : List Nat := StrLaws.replL (sps 8) [9] l
theorem rp_nil : rp [] = [] := StrLaws.replL_nil
theorem rp_hit {l : List Nat} (h : l.take 8 = sps 8) : rp l = 9 :: rp (l.drop 8) := by
  cases l with
  | nil => cases h
  | cons c r => exact StrLaws.replL_hit (y := sps 8) (by decide) h
theorem rp_miss {c : Nat} {r : List Nat} (h : ¬ (c :: r).take 8 = sps 8) : rp (c :: r) = c :: rp r := StrLaws.replL_miss (y := sps 8) h
theorem rp_no8 : ∀ {l : List Nat}, no8 l = true → rp l = l
  | [], _ => rp_nil
  | c :: r, h => by
    have h2 : (!decide ((c :: r).take 8 = sps 8) && no8 r) = true := h
    rw [Bool.and_eq_true, Bool.not_eq_true', decide_eq_false_iff_not] at h2
    rw [rp_miss h2.1, rp_no8 h2.2]
theorem take8_app {l : List Nat} {r : List Nat} : (l ++ 10 :: r).take 8 = sps 8 ↔ l.take 8 = sps 8 := by
  by_cases h : 8 ≤ l.length
  · rw [List.take_append_of_le_length h]
  · constructor
    · intro e
      have h10 : (10 : Nat) ∈ (l ++ 10 :: r).take 8 := by
        refine List.mem_iff_getElem?.mpr ⟨l.length, ?_⟩
        rw [List.getElem?_take, if_pos (by omega), List.getElem?_append_right (Nat.le_refl _), Nat.sub_self]
        rfl
      rw [e] at h10
      exact absurd (List.eq_of_mem_replicate h10) (by decide)
    · intro e
      have := congrArg List.length e
      rw [List.length_take] at this
      have l8 : (sps 8).length = 8 := rfl
      omega
theorem rp_line : ∀ (k : Nat) (l r : List Nat), l.length ≤ k → rp (l ++ 10 :: r) = rp l ++ 10 :: rp r
  | _, [], r, _ => by
    rw [rp_nil, List.nil_append, List.nil_append, rp_miss (fun h => by
      have := congrArg List.head? h
      cases this)]
  | 0, c :: l, r, h => by cases h
  | k + 1, c :: l, r, h => by
    by_cases hh : (c :: l).take 8 = sps 8
    · have h8 : 8 ≤ (c :: l).length := by
        have := congrArg List.length hh
        rw [List.length_take] at this
        have l8 : (sps 8).length = 8 := rfl
        omega
      rw [rp_hit hh, rp_hit (take8_app.mpr hh), List.drop_append_of_le_length h8, rp_line k _ r (by rw [List.length_drop]; omega)]
      rfl
    · rw [rp_miss hh]
      have : ¬ (c :: (l ++ 10 :: r)).take 8 = sps 8 := fun e => hh (take8_app.mp e)
      rw [List.cons_append, rp_miss this, rp_line k l r (Nat.le_of_succ_le_succ h)]
      rfl
theorem rp_join : ∀ ls : List (List Nat), rp (joinL [10] ls) = joinL [10] (ls.map rp)
  | [] => rp_nil
  | [a] => rfl
  | a :: b :: r => by
    have ih := rp_join (b :: r)
    have e1 : joinL [10] (a :: b :: r) = a ++ 10 :: joinL [10] (b :: r) := rfl
    have e2 : joinL [10] ((a :: b :: r).map rp) = rp a ++ 10 :: joinL [10] ((b :: r).map rp) := rfl
    rw [e1, e2, ← ih]
    exact rp_line a.length a _ (Nat.le_refl _)
theorem rp_low {b : List Nat} (hb : b.head? ≠ some 32) : ∀ n, n < 8 → rp (sps n ++ b) = sps n ++ rp b
  | 0, _ => rfl
  | n + 1, h => by
    have ih := rp_low hb n (by omega)
    have e : sps (n + 1) ++ b = 32 :: (sps n ++ b) := rfl
    rw [e, rp_miss (fun z => ?_), ih]
    · rfl
    · have h2 : (32 :: (sps n ++ b))[n + 1]? = some 32 := by
        have h3 : ((32 :: (sps n ++ b)).take 8)[n + 1]? = (sps 8)[n + 1]? := by rw [z]
        rw [List.getElem?_take, if_pos (by omega)] at h3
        rw [h3]
        unfold sps
        rw [List.getElem?_replicate, if_pos (by omega)]
      have ls : (sps n).length = n := List.length_replicate
      rw [List.getElem?_cons_succ, List.getElem?_append_right (by omega), ls, Nat.sub_self] at h2
      exact hb (by rw [List.head?_eq_getElem?]; exact h2)
theorem rp_sps {b : List Nat} (hb : b.head? ≠ some 32) (h8 : no8 b = true) : ∀ k r, r < 8 → rp (sps (8 * k + r) ++ b) = List.replicate k 9 ++ (sps r ++ b)
  | 0, r, h => by
    rw [Nat.mul_zero, Nat.zero_add, rp_low hb r h, rp_no8 h8]
    rfl
  | k + 1, r, h => by
    have e : sps (8 * (k + 1) + r) ++ b = sps 8 ++ (sps (8 * k + r) ++ b) := by
      rw [sps_add]
      congr 2
      omega
    have e8 : (sps 8 ++ (sps (8 * k + r) ++ b)).drop 8 = sps (8 * k + r) ++ b := List.drop_left' rfl
    rw [e, rp_hit (List.take_left' rfl), e8, rp_sps hb h8 k r h]
    rfl
theorem exp_tabs {b : List Nat} (ho : okc b = true) (r : Nat) : ∀ k, Mun.expT 8 0 (List.replicate k 9 ++ (sps r ++ b)) = sps (8 * k + r) ++ b
  | 0 => by
    have : okc (sps r ++ b) = true := by
      unfold okc at ho ⊢
      rw [List.all_append, ho, Bool.and_true, List.all_eq_true]
      intro c hc
      rw [List.eq_of_mem_replicate hc]
      decide
    rw [Nat.mul_zero, Nat.zero_add]
    exact expT_id this 0
  | k + 1 => by
    have ih := exp_tabs ho r k
    have hc : ∀ c ∈ List.replicate k 9 ++ (sps r ++ b), c ≠ 10 ∧ c ≠ 13 := fun c hc => by
      rcases List.mem_append.mp hc with h | h
      · rw [List.eq_of_mem_replicate h]
        decide
      · rcases List.mem_append.mp h with h | h
        · rw [List.eq_of_mem_replicate h]
          decide
        · exact okc_no ho c h
    have e2 := exp_col 1 (List.replicate k 9 ++ (sps r ++ b)) 0 hc
    rw [List.replicate_succ, List.cons_append, Mun.expT, if_pos rfl]
    show List.replicate 8 32 ++ Mun.expT 8 (8 * 1 + 0) _ = _
    rw [e2, ih]
    show sps 8 ++ (sps (8 * k + r) ++ b) = _
    rw [sps_add]
    congr 2
    omega
theorem lead_parts : ∀ l : List Nat, l = sps (lead l) ++ l.drop (lead l) ∧ (l.drop (lead l)).head? ≠ some 32
  | [] => ⟨rfl, nofun⟩
  | c :: r => by
    obtain ⟨i1, i2⟩ := lead_parts r
    by_cases h : c = 32
    · subst h
      have e : lead (32 :: r) = lead r + 1 := by
        unfold lead
        rw [List.takeWhile_cons, if_pos (by decide), List.length_cons]
      rw [e, List.drop_succ_cons]
      refine ⟨?_, i2⟩
      show 32 :: r = 32 :: (sps (lead r) ++ r.drop (lead r))
      rw [← i1]
    · rw [lead_ne r (beq_eq_false_iff_ne.mpr h), List.drop_zero]
      exact ⟨rfl, fun z => h (Option.some.inj z)⟩
/-- a line whose runs of eight spaces stand at its beginning alone -/
theorem exp_rp {l : List Nat} (ho : okc l = true) (h8 : no8 (l.drop (lead l)) = true) : Mun.expT 8 0 (rp l) = l := by
  obtain ⟨hl, hb⟩ := lead_parts l
  have ob : okc (l.drop (lead l)) = true := by
    unfold okc at ho ⊢
    rw [List.all_eq_true] at ho ⊢
    exact fun c hc => ho c (List.mem_of_mem_drop hc)
  have e := rp_sps hb h8 (lead l / 8) (lead l % 8) (Nat.mod_lt _ (by decide))
  rw [Nat.div_add_mod] at e
  have e2 := exp_tabs ob (lead l % 8) (lead l / 8)
  rw [Nat.div_add_mod] at e2
  conv => lhs; rw [hl]
  rw [e, e2]
  exact hl.symm

/-! ### rows of parts, whole -/
theorem whole_rows {ns : List NP} {s : Nat} {e : Bool} (sq0 : SeqOk ns) (rl : ((rowsAll ns).map (shl s)).length ≤ 49) (rs : ∀ l ∈ (rowsAll ns).map (shl s), szL 90 l) (he : EndOk ((rowsAll ns).map (shl s)) e) :
    ∃ (init ls : List (List Nat)) (last : List Nat), Rd ((rowsAll ns).map (shl s)) (leastN (leads ((rowsAll ns).map (shl s)))) e init last ls ∧ Whole (mk (joinL [10] ((rowsAll ns).map (shl s)) ++ endL e)) ls init last ∧ (ls.length ≤ 50 ∧ ∀ l ∈ ls, okc l = true ∧ l.length ≤ 90) ∧ ∀ (C D : Addr) (H : Hp) (us : List V), PcsAt C D (rowsOf init last) H us (piecesL (keptOf init last) 0 (cutsL (rowsOf init last) 0)) → Paired (Fit C D H) us (duesB ((rowsAll ns).map (shl s)) (leastN (leads ((rowsAll ns).map (shl s)))) s e 0 ns) := by
  have ok : ∀ q ∈ ns, q.Ok := fun q hq => sq0.mem q hq
  have off := off_of (s := s) ok
  have sq := seq_lev sq0 off
  have lv := rowsAll_lev (s := s) fun q hq => ⟨ok q hq, off q hq⟩
  generalize hR : (rowsAll ns).map (shl s) = R1 at *
  obtain ⟨init, last, ls, rd⟩ := reads R1 e he
  generalize hm : leastN (leads R1) = m at *
  have okl : ∀ l ∈ ls, okc l = true ∧ l.length ≤ 90 := fun l hl => by
    rcases rd.mem l hl with h | h
    · exact rs l h
    · rw [h]
      exact ⟨rfl, Nat.zero_le _⟩
  have e1 : rowsOf init last = rowsAll (ns.map (NP.lev s m)) := rd.rows.trans lv.symm
  have ec : cutsL (rowsOf init last) 0 = cutsB 0 (ns.map (NP.lev s m)) := by
    rw [e1]
    exact cuts_of_parts _ [] sq
  have lx : (joinL [10] R1 ++ endL e).length ≤ 9000 := by
    have : (joinL [10] R1).length ≤ 49 * 91 := by
      have h2 : ∀ x : List (List Nat), (∀ l ∈ x, szL 90 l) → (joinL [10] x).length ≤ x.length * 91 := fun x => by
        induction x with
        | nil => exact fun _ => Nat.zero_le _
        | cons a r ih =>
          intro hx
          have i1 := ih fun l hl => hx l (List.mem_cons_of_mem _ hl)
          have i2 := (hx a (List.mem_cons_self ..)).2
          cases r with
          | nil =>
            show a.length ≤ (0 + 1) * 91
            omega
          | cons b y =>
            rw [joinL_more _ _ (by simp), List.length_append, List.length_append, List.length_cons (a := a)]
            show a.length + (1 + _) ≤ _
            omega
      exact Nat.le_trans (h2 R1 rs) (Nat.mul_le_mul_right 91 rl)
    rw [List.length_append]
    have : (endL e).length ≤ 1 := by
      cases e
      · exact Nat.zero_le _
      · exact Nat.le_refl _
    omega
  refine ⟨init, ls, last, rd, ⟨rd.eq, rd.ne, fun l hl c hc => ?_, lx, ?_, ?_, fun c hc => ?_⟩, ⟨rd.few rl, okl⟩, fun C D H us hp => ?_⟩
  · have := (okl l hl).1
    unfold okc at this
    rw [List.all_eq_true] at this
    have := this c hc
    rw [Bool.and_eq_true, decide_eq_true_eq, decide_eq_true_eq] at this
    omega
  · rw [exp_rows fun l hl => (okl l hl).1]
    exact rd.lev
  · rw [← rd.lev]
    have l1 : (joinL [10] (levW ls)).length ≤ (joinL [10] ls).length := by
      unfold levW
      generalize leastN (leads ls) = k
      have : ∀ x : List (List Nat), (joinL [10] (x.map (·.drop k))).length ≤ (joinL [10] x).length := fun x => by
        induction x with
        | nil => exact Nat.le_refl _
        | cons a r ih =>
          cases r with
          | nil =>
            show (a.drop k).length ≤ a.length
            rw [List.length_drop]
            omega
          | cons b y =>
            rw [List.map_cons, joinL_more _ _ (by simp), joinL_more _ _ (by simp), List.length_append, List.length_append, List.length_append, List.length_append, List.length_drop]
            omega
      exact this ls
    rw [← rd.eq] at l1
    omega
  · rw [ec] at hc
    obtain ⟨a, c0, D0, ss, ws, b, en, rfl⟩ := cutsB_mem hc
    rw [Nat.zero_add]
    have ok0 : (NP.ex c0 D0 ss ws).Ok := sq.mem _ (by rw [en]; simp)
    obtain ⟨f0, f1, f2, f3⟩ := ex_facts ok0 (rowsAll a) (rowsAll b) (A := rowsOf init last) (by rw [e1, en, rowsAll_app, rowsAll_cons])
    refine ⟨f0, fun l hl => ?_⟩
    dsimp only at hl
    rw [f3, f1] at hl
    obtain ⟨p, hp, rfl⟩ := List.mem_map.mp hl
    exact (ok0.2.1 p hp).2.1
  · rw [ec, pieces_of_parts (keptOf init last) _ 0 sq (by
      rw [Nat.zero_add, ← e1]
      unfold keptOf rowsOf
      rw [List.length_append, List.length_append, List.length_map])] at hp
    exact fit_all rd ns [] [] us (fun q hq => ⟨ok q hq, off q hq⟩) (by rw [e1, List.append_nil]; rfl) hp

/-! ### smoothed -/
def smL (l : List Nat) : List Nat := if smP l = true then l.dropLast else l
/-- whether a text has no line feed at its end -/
def noEnd (y : List Nat) : Bool := !decide (V.str (cutS (mk y) (some (-1)) none) = V.str "\n")
def smT (ls : List (List Nat)) (b : Bool) : List Nat := joinL [10] (ls.map smL) ++ (if (b && noEnd (joinL [10] (ls.map smL))) = true then [10] else [])
/-- whether the last piece is no text -/
def LastIs (K : PySem.W.Frag) (H : Hp) (us : List V) (b : Bool) : Prop := (us = [] ∧ b = false) ∨ ∃ v, us.getLast? = some v ∧ ((∃ x, v = .str x ∧ b = false) ∨ ∃ T, TyX K H v T ∧ PySem.W.kitOne K T (.type "str") = some false ∧ b = true)
section
variable {P : Program} {w : World} {K : PySem.W.Frag} {mg : Str → Option Value} {base : Heap}
def sp_law_smoothed (K : PySem.W.Frag) : Sp := fun vs H Q _ => ∃ (x : Str) (ls : List (List Nat)) (p : Addr) (us : List V) (b : Bool), vs = [.str x, .ref p] ∧ H p = some (.lst us) ∧ tl x = joinL [10] ls ∧ ls ≠ [] ∧ Rows10 ls ∧ ls.length ≤ 100 ∧ (∀ l ∈ ls, l.length ≤ 200) ∧ us.length ≤ 100 ∧
  (∀ H', Same H H' → LastIs K H' us b) ∧ ∀ H', Same H H' → Q (.str (mk (smT ls b))) H'
theorem ok_law_smoothed {f : Addr} {fd : FuncData} {dvs : List V} (F : Fn K "_law_smoothed" s_law_smoothed dvs f fd) (m_int : mg "int" = none) (m_isinstance : mg "isinstance" = none) (m_str : mg "str" = none) : FnOk P w K mg base CX0 1 f fd ["text", "pieces"] (sp_law_smoothed K) := by
  refine Fn.okN F sc_law_smoothed (fun vs H Q E h => ?_) (fun cdv A outer s H vs Q E hr h => ?_)
  · obtain ⟨_, _, _, _, _, rfl, _⟩ := h
    rfl
  · obtain ⟨x, ls, p, us, b, rfl, ep, ex, hne, h10, hl, hb, hu, hlast, k⟩ := h
    refine ⟨_, (pss_cons (ps_set (i := 2) sc_law_smoothed.nd rfl (.inl rfl) (pe_lst pa_nil))
      (pss_cons (ps_for PassesOwn.never rfl (pi_list (pe_m1 PySem.F.slot_str_split PySem.F.type_str_split mt_split (pv 0) pe_str)) (pg_name (i := 3) sc_law_smoothed.nd rfl (.inl rfl))
          (pss_cons (ps_set (i := 4) sc_law_smoothed.nd rfl (.inl rfl) (pe_m1 PySem.F.slot_str_lstrip PySem.F.type_str_lstrip mt_lstripChars (pv 3) pe_str))
            (pss_one (ps_expr (pe_bm PySem.F.plainAttrs_list PySem.F.slot_list_append PySem.F.type_list_append mt_append (pv 2) (pa_cons (pe_ifExp (pt_cmpR op_in_seq (pv 4) (pe_tup (pa_cons pe_str (pa_cons pe_str pa_nil))) rfl) (pe_slice sl_str (pv 3) po_none (po_some (pe_un un_neg pe_int))) (pv 3)) pa_nil))))))
      (pss_cons (ps_set (i := 0) sc_law_smoothed.nd rfl (.inl rfl) (pe_m1 PySem.F.slot_str_join PySem.F.type_str_join mt_join pe_str (pv 2)))
      (pss_cons (ps_set (i := 5) sc_law_smoothed.nd rfl (.inl rfl) (pe_and (pe_cmpR (op_neE hr.units) (pv 1) (pe_lst pa_nil) (nomark _)) (pe_and (pe_not (pe_callB call_isi (by rfl) m_isinstance (by decide +kernel) (pa_cons (pe_ix ix_list (pv 1) (pe_un un_neg pe_int) (fun _ _ => rfl)) (pa_cons (pe_bltn (v := .ty "str") (by rfl) m_str (by decide +kernel) rfl) pa_nil)))) (pe_one (pe_cmpR op_ne (pe_slice sl_str (pv 0) (po_some (pe_un un_neg pe_int)) po_none) pe_str (nomark _))))))
      (pss_one (ps_ret (pe_op op_add_str (pv 0) (pe_op op_repS pe_str (pe_callTy call_int1 (by rfl) m_int (by decide +kernel) (pa_cons (pv 5) pa_nil)))))))))), ?_⟩
    have lx : x.length ≤ 30000 := by
      rw [len_tl, ex]
      have := joinL_len [10] hne
      have h2 := sum_le_of hb
      have l1 : ([10] : List Nat).length = 1 := rfl
      rw [l1] at this
      have : ls.length * 200 ≤ 100 * 200 := Nat.mul_le_mul_right _ hl
      omega
    refine ⟨by show 0 ≤ sizeLine; decide, fun F nF => ⟨.str x, rfl, ⟨_, rfl⟩, x, "\n", rfl, rfl, by decide +kernel, line_of (by omega), fun S nS => ?_⟩⟩
    rw [split_join ex hne h10]
    have sF := same_new (o := .lst []) nF
    have eF : (upd H F (.lst [])) F = some (rowsV []) := upd_same
    generalize upd H F (.lst []) = H1 at sF eF nS ⊢
    have sS := same_new (o := .lst ((ls.map mk).map V.str)) nS
    have eS : (upd H1 S (.lst ((ls.map mk).map V.str))) S = some (.lst ((ls.map mk).map V.str)) := upd_same
    have eF0 := eF
    have eF := sS _ _ eF
    have s2 := sF.trans sS
    have FS : S ≠ F := (ne_of_none eF0 nS).symm
    generalize upd H1 S (.lst ((ls.map mk).map V.str)) = H2 at eS eF s2 ⊢
    refine ⟨S, rfl, ⟨_, SqL.of eS⟩, for_list (K := K) (a := S) (xs := (ls.map mk).map V.str) (fun i σ H3 => ∃ (v3 v4 : Option V), σ = [some (.str x), some (.ref p), some (.ref F), v3, v4, none] ∧ H3 F = some (rowsV ((ls.take i).map smL)) ∧ (∀ c o, c ≠ F → H2 c = some o → H3 c = some o)) ⟨none, none, rfl, eF, fun _ _ _ e => e⟩ (fun i σ H3 _ h => by
      obtain ⟨_, _, _, _, h⟩ := h
      exact SqL.of (h _ _ FS eS)) ?_ ?_⟩
    · rintro i v σ H3 hv ⟨v3, v4, rfl, eF3, k3⟩
      obtain ⟨_, rfl, hz⟩ := str_at hv
      rw [List.getElem?_map] at hz
      obtain ⟨l, hl2, rfl⟩ := Option.map_eq_some_iff.mp hz
      have hi : i < ls.length := (List.getElem?_eq_some_iff.mp hl2).1
      have hll := hb l (List.mem_of_getElem? hl2)
      have lnl : (mk l).length ≤ sizeLine := line_of (by rw [mk_len]; omega)
      refine ⟨.str (mk l), rfl, ⟨_, rfl⟩, mk l, " ", rfl, rfl, lnl, ?_⟩
      rw [lstrip_sp]
      refine ⟨.ref F, rfl, .inl ⟨rfl, _, SqL.of eF3⟩, .str (mk (l.drop (lead l))), rfl, by show 2 ≤ sizeLine; decide, fun T nT => ⟨T, _, rfl, .inr (SqT.of upd_same), rfl, rfl, _, rfl, ?_⟩⟩
      have sT := same_new (o := .tup [.str ">>> ", .str "... "]) nT
      have TF : F ≠ T := ne_of_none eF3 nT
      have fin : ∀ y : List Nat, y = smL l → ∃ (v3 v4 : Option V), [some (V.str x), some (.ref p), some (.ref F), some (.str (mk l)), some (.str (mk (l.drop (lead l)))), none] = [some (.str x), some (.ref p), some (.ref F), v3, v4, none] ∧ (upd (upd H3 T (.tup [.str ">>> ", .str "... "])) F (.lst ((((ls.take i).map smL).map mk).map V.str ++ [.str (mk y)]))) F = some (rowsV ((ls.take (i + 1)).map smL)) ∧ (∀ c o, c ≠ F → H2 c = some o → (upd (upd H3 T (.tup [.str ">>> ", .str "... "])) F (.lst ((((ls.take i).map smL).map mk).map V.str ++ [.str (mk y)]))) c = some o) := fun y hy => by
        refine ⟨_, _, rfl, ?_, fun c o n e => ?_⟩
        · rw [upd_same, List.take_add_one, hl2, List.map_append, hy]
          exact congrArg some (rowsV_snoc _ (mk (smL l)))
        · rw [upd_ne n]
          exact sT _ _ (k3 _ _ n e)
      have lf : ((((ls.take i).map smL).map mk).map V.str).length < sizeLine := by
        rw [rowsV_len, List.length_map, List.length_take]
        exact Nat.lt_of_le_of_lt (show min i _ ≤ 100 by omega) (by decide)
      cases hs : smP l with
      | true =>
        have e1 : inV (.str (mk (l.drop (lead l)))) [.str ">>> ", .str "... "] = true := hs
        rw [e1]
        refine iteT ⟨.str (mk l), rfl, 1, rfl, -1, rfl, mk l, rfl, lnl, F, _, _, rfl, rfl, sT _ _ eF3, lf, ?_⟩
        rw [cut_last]
        exact fin l.dropLast (by unfold smL; rw [hs]; rfl)
      | false =>
        have e1 : inV (.str (mk (l.drop (lead l)))) [.str ">>> ", .str "... "] = false := hs
        rw [e1]
        exact iteF ⟨.str (mk l), rfl, F, _, _, rfl, rfl, sT _ _ eF3, lf, fin l (by unfold smL; rw [hs]; rfl)⟩
    · rintro σ H3 ⟨v3, v4, rfl, eF3, k3⟩
      rw [rowsV_len, List.take_length] at eF3
      have en : ("\n" : Str) = mk [10] := ten_eq
      have l1 : ("\n" : Str).length = 1 := rfl
      have s3 : Same H H3 := fun c o e => k3 _ _ (ne_of_none e nF) (s2 _ _ e)
      have hq : ∀ l ∈ ls.map smL, l.length ≤ 200 := fun l h => by
        obtain ⟨l', h', rfl⟩ := List.mem_map.mp h
        have := hb l' h'
        unfold smL
        split
        · rw [List.length_dropLast]
          omega
        · exact this
      have lm : (ls.map smL).length = ls.length := List.length_map _
      refine ⟨⟨_, rfl⟩, .ref F, rfl, "\n", F, (ls.map smL).map mk, rfl, rfl, .inl (SqL.of eF3), ?_, ?_⟩
      · have h2 := sum_le_of hq
        rw [l1, List.map_map, List.length_map]
        show ((ls.map smL).map (·.length)).sum + _ ≤ _
        have : (ls.map smL).length * 200 ≤ 100 * 200 := Nat.mul_le_mul_right _ (by omega)
        omega
      rw [en, join_mk, ← en]
      have ly : (joinL [10] (ls.map smL)).length ≤ 30000 := by
        have h1 := joinL_len [10] (ps := ls.map smL) (fun z => hne (List.map_eq_nil_iff.mp z))
        have h2 := sum_le_of hq
        have e1 : ([10] : List Nat).length = 1 := rfl
        rw [e1] at h1
        have : (ls.map smL).length * 200 ≤ 100 * 200 := Nat.mul_le_mul_right _ (by omega)
        omega
      have hk : ∀ b' : Bool, (b && noEnd (joinL [10] (ls.map smL))) = b' → ∀ H', Same H H' → Q (.str (mk (joinL [10] (ls.map smL)) ++ Txt.mul "\n" (if b' = true then 1 else 0))) H' := fun b' hb' H' s' => by
        have := k H' s'
        unfold smT at this
        rw [hb'] at this
        have e : mk (joinL [10] (ls.map smL)) ++ Txt.mul "\n" (if b' = true then 1 else 0) = mk (joinL [10] (ls.map smL) ++ (if b' = true then [10] else [])) := ext_tl (by
          rw [tl_append]
          cases b' with
          | true =>
            show _ ++ tl (Txt.mul "\n" 1) = _ ++ [10]
            congr 1
          | false =>
            show _ ++ tl (Txt.mul "\n" 0) = _ ++ []
            congr 1)
        rw [e]
        exact this
      generalize joinL [10] (ls.map smL) = y at ly hk ⊢
      have lny : (mk y).length ≤ sizeLine := line_of (by rw [mk_len]; omega)
      have fin : ∀ b' : Bool, (b && noEnd y) = b' → ∀ H', Same H H' → ∃ (z : Str) (n : Int), V.str "\n" = .str z ∧ (V.int (if b' = true then 1 else 0)) = .int n ∧ MulOk z n ∧ ∃ (i j : Str), V.str (mk y) = .str i ∧ V.str (Txt.mul z n) = .str j ∧ i.length + j.length ≤ sizeLine ∧ Q (.str (i ++ j)) H' := fun b' hb' H' s' => by
        refine ⟨"\n", _, rfl, rfl, ?_, mk y, _, rfl, rfl, ?_, hk b' hb' H' s'⟩
        · cases b' with
          | true => exact mulOk_nl1
          | false => exact mulOk_nl0
        · have : (Txt.mul "\n" (if b' = true then 1 else 0)).length ≤ 1 := by cases b' <;> decide +kernel
          rw [mk_len]
          exact line_of (by omega)
      refine ⟨.ref p, rfl, by show 0 ≤ sizeLine; decide, fun Z nZ => ?_⟩
      have sZ := same_new (o := .lst []) nZ
      have s4 := s3.trans sZ
      have eZ : (upd H3 Z (.lst [])) Z = some (.lst []) := upd_same
      generalize upd H3 Z (.lst []) = H4 at s4 eZ ⊢
      have ep4 := s4 _ _ ep
      refine ⟨p, Z, us, rfl, rfl, SqL.of ep4, SqL.of eZ, _, rfl, ?_⟩
      rcases hlast H4 s4 with ⟨rfl, rfl⟩ | ⟨v, hv, hcase⟩
      · refine iteF ⟨.str (mk y), rfl, .bl false, rfl, .inr ⟨false, rfl, ?_⟩⟩
        exact fin false rfl H4 s4
      · have hue : us.isEmpty = false := by
          cases us with
          | nil => cases hv
          | cons a r => rfl
        rw [hue]
        have hat : atI us (-1) = some v := by
          obtain ⟨r, rfl⟩ := List.getLast?_eq_some_iff.mp hv
          exact atI_last _ _
        rcases hcase with ⟨z, rfl, rfl⟩ | ⟨T, ty, kit, rfl⟩
        · refine iteT ⟨.ref p, rfl, 1, rfl, p, us, -1, .str z, rfl, rfl, SqL.of ep4, hat, .str z, _, _, _, true, rfl, .ty "str", .base (.str z), kit_ty (by decide +kernel), true, rfl, _, rfl, ?_⟩
          exact iteF ⟨.str (mk y), rfl, .bl false, rfl, .inr ⟨false, rfl, fin false rfl H4 s4⟩⟩
        · refine iteT ⟨.ref p, rfl, 1, rfl, p, us, -1, v, rfl, rfl, SqL.of ep4, hat, v, _, _, _, false, rfl, .ty "str", ty, kit, false, rfl, _, rfl, ?_⟩
          refine iteT ⟨.str (mk y), rfl, 1, rfl, -1, rfl, mk y, rfl, lny, rfl, .str (mk y), rfl, .bl (noEnd y), rfl, .inr ⟨_, rfl, ?_⟩⟩
          exact fin (noEnd y) (Bool.true_and _) H4 s4
end

/-! ### the pieces found, joined -/
/-- an example as it is written: no space behind a prompt alone -/
def NP.norm : NP → NP
  | .txt ls => .txt ls
  | .ex c d ss ws => .ex c d (ss.map fun p => (p.1, bodyOf p.1)) ws
theorem body_ok (l : List Nat) : BOk (l, bodyOf l) := by
  unfold BOk bodyOf
  by_cases h : l = []
  · rw [if_pos h]
    exact .inr ⟨h, rfl⟩
  · rw [if_neg h]
    exact .inl rfl
theorem norm_fst (ss : List (List Nat × List Nat)) : (ss.map fun p => (p.1, bodyOf p.1)).map (·.1) = ss.map (·.1) := by
  rw [List.map_map]
  rfl
theorem norm_ok {q : NP} (h : q.Ok) : q.norm.Ok := by
  cases q with
  | txt ls => exact h
  | ex c d ss ws =>
    obtain ⟨h1, h2, h3, h4, h5⟩ := h
    refine ⟨fun z => h1 (List.map_eq_nil_iff.mp z), fun p hp => ?_, by rw [norm_fst]; exact h3, h4, h5⟩
    obtain ⟨p', hp', rfl⟩ := List.mem_map.mp hp
    exact ⟨body_ok p'.1, (h2 p' hp').2⟩
theorem norm_first {q : NP} (h : q.First) : q.norm.First := by
  cases q with
  | txt ls => exact h
  | ex c d ss ws => trivial
theorem norm_isTxt (q : NP) : q.norm.isTxt = q.isTxt := by cases q <;> rfl
theorem seq_norm : ∀ {ns : List NP}, SeqOk ns → SeqOk (ns.map NP.norm)
  | [], _ => trivial
  | q :: r, h => ⟨norm_ok h.1, fun x r' e => by
      cases r with
      | nil => cases e
      | cons y r2 =>
        cases e
        have := h.2.1 y r2 rfl
        refine ⟨norm_first this.1, fun z => ?_⟩
        rw [norm_isTxt] at z ⊢
        exact this.2 z, seq_norm h.2.2⟩
theorem norm_rows_len (q : NP) : q.norm.rows.length = q.rows.length := by
  cases q with
  | txt ls => rfl
  | ex c d ss ws =>
    show (srows d (ss.map fun p => (p.1, bodyOf p.1)) ++ _).length = (srows d ss ++ _).length
    rw [List.length_append, List.length_append, srows_len, srows_len, List.length_map]
theorem norm_wrows (c : Bool) (d : Nat) (ss : List (List Nat × List Nat)) (ws : List (List Nat)) : (NP.ex c d ss ws).norm.rows = wrows d (ss.map (·.1)) ws := by
  show srows d (ss.map fun p => (p.1, bodyOf p.1)) ++ ws.map (sps d ++ ·) = srows d ((ss.map (·.1)).map fun l => (l, bodyOf l)) ++ ws.map (sps d ++ ·)
  rw [List.map_map]
  rfl
/-- the text of rows, each with its line feed -/
def fedT (R : List (List Nat)) : List Nat := joinL [] (R.map (· ++ [10]))
theorem fedT_app (a b : List (List Nat)) : fedT (a ++ b) = fedT a ++ fedT b := by
  unfold fedT
  rw [List.map_append]
  generalize a.map (· ++ [10]) = x
  generalize b.map (· ++ [10]) = y
  induction x with
  | nil => rfl
  | cons c r ih => rw [List.cons_append, joinL_flat, joinL_flat, ih, List.append_assoc]
theorem fedT_ten {R : List (List Nat)} (h : R ≠ []) : fedT R = joinL [10] R ++ [10] := by
  unfold fedT
  rw [ten_last R h, join_ten]
/-- the pieces found as what is to be joined -/
def pcOf (R1 : List (List Nat)) (m s : Nat) (e : Bool) (o : Nat) : NP → Pc
  | .txt ts => .inl (if (decide (o + ts.length = R1.length) && !e) = true then (fedT (((R1.drop o).take ts.length).map (·.drop m))).dropLast else fedT (((R1.drop o).take ts.length).map (·.drop m)))
  | .ex _ d ss ws => .inr (d + s - m, ss.map (·.1), ws)
def pcsOf (R1 : List (List Nat)) (m s : Nat) (e : Bool) (o : Nat) : List NP → List Pc
  | [] => []
  | p :: r => pcOf R1 m s e o p :: pcsOf R1 m s e (o + p.rows.length) r
theorem pc_ok {C D : Addr} {H : Hp} {v : V} {R1 : List (List Nat)} {m s o : Nat} {e : Bool} (rs : ∀ l ∈ R1, szL 90 l) : ∀ {q : NP}, q.Sz → q.Ok → q.Off s m → s ≤ 16 → Fit C D H v (dueOf R1 m s e o q) → PcOk C D H v (pcOf R1 m s e o q)
  | .txt ts, z, _, _, _, h => by
    have e1 : ((R1.drop o).take ts.length).map (fun l => l.drop m ++ [10]) = (((R1.drop o).take ts.length).map (·.drop m)).map (· ++ [10]) := by
      rw [List.map_map]
      rfl
    have lt : (fedT (((R1.drop o).take ts.length).map (·.drop m))).length ≤ 5000 := by
      unfold fedT
      rw [flat_len]
      have hq : ∀ l ∈ ((R1.drop o).take ts.length).map (·.drop m), l.length ≤ 90 := fun l hl => by
        obtain ⟨l', h', rfl⟩ := List.mem_map.mp hl
        have := (rs l' (List.mem_of_mem_drop (List.mem_of_mem_take h'))).2
        rw [List.length_drop]
        omega
      have h1 := sum_le_of hq
      have h2 : (((R1.drop o).take ts.length).map (·.drop m)).length ≤ 4 := by
        have := z.1
        rw [List.length_map, List.length_take]
        omega
      omega
    have hv : v = _ := h
    rw [e1] at hv
    show v = .str (mk (if _ then _ else _)) ∧ _
    split at hv <;> rename_i hc
    · rw [if_pos hc]
      exact ⟨hv, by rw [List.length_dropLast]; omega⟩
    · rw [if_neg hc]
      exact ⟨hv, lt⟩
  | .ex c d ss ws, z, ok, off, hs, h => by
    obtain ⟨z1, z2, z3, z4, z5⟩ := z
    obtain ⟨o1, o2, _, _, _⟩ := ok
    have ei : (d : Int) + s - m = ((d + s - m : Nat) : Int) := by
      have : m ≤ d + s := off
      omega
    have r10 : ∀ (x : List (List Nat)) (b : Nat), (∀ l ∈ x, szL b l) → Rows10 x := fun x b hx l hl h10 => (okc_no (hx l hl).1 10 h10).1 rfl
    have ss1 : ∀ l ∈ ss.map (·.1), szL 20 l := fun l hl => by
      obtain ⟨p, hp, rfl⟩ := List.mem_map.mp hl
      exact z3 p hp
    have fin : ∀ (q cls dx : Addr) (fs : List (Str × V)), v = .ref q → (cls = C ∨ cls = D) → H q = some (.ins cls dx fs) → fs.lookup ("source" : Str) = some (.str (rowsT (ss.map (·.1)))) → fs.lookup ("want" : Str) = some (.str (rowsT ws)) → fs.lookup ("indent" : Str) = some (.int ((d : Int) + s - m)) → PcOk C D H v (.inr (d + s - m, ss.map (·.1), ws)) := fun q cls dx fs e1 e2 e3 e4 e5 e6 =>
      ⟨q, cls, dx, fs, e1, e2, e3, e4, e5, by rw [e6, ei], fun zz => o1 (List.map_eq_nil_iff.mp zz), r10 _ _ ss1, r10 _ _ z5, fun l hl => Nat.le_trans (ss1 l hl).2 (by decide), fun l hl => Nat.le_trans (z5 l hl).2 (by decide), by rw [List.length_map]; omega, by omega, by omega⟩
    cases c with
    | true =>
      obtain ⟨q, dx, fs, e1, e2, e3⟩ := h
      exact fin q D dx fs e1 (.inr rfl) e2 e3.source e3.want e3.indent
    | false =>
      obtain ⟨q, dx, fs, e1, e2, e3⟩ := h
      exact fin q C dx fs e1 (.inl rfl) e2 e3.source e3.want e3.indent
theorem pcs_ok {C D : Addr} {H : Hp} {R1 : List (List Nat)} {m s : Nat} {e : Bool} (rs : ∀ l ∈ R1, szL 90 l) (hs : s ≤ 16) : ∀ {ns : List NP} {o : Nat} {us : List V}, (∀ q ∈ ns, q.Sz ∧ q.Ok ∧ q.Off s m) → Paired (Fit C D H) us (duesB R1 m s e o ns) → Paired (PcOk C D H) us (pcsOf R1 m s e o ns)
  | [], _, [], _, _ => .nil
  | q :: r, o, v :: us, h, hp => by
    cases hp with
    | cons a b =>
      have hq := h q (List.mem_cons_self ..)
      exact .cons (pc_ok rs hq.1 hq.2.1 hq.2.2 hs a) (pcs_ok rs hs (fun x hx => h x (List.mem_cons_of_mem _ hx)) b)
  | [], _, _ :: _, _, h => by cases h
  | _ :: _, _, [], _, h => by cases h

/-! ### the text joined -/
def nl (s m : Nat) (q : NP) : NP := (q.lev s m).norm
def lastTxt : List NP → Bool
  | [] => false
  | [q] => q.isTxt
  | _ :: r => lastTxt r
theorem lastTxt_cons (q : NP) {r : List NP} (h : r ≠ []) : lastTxt (q :: r) = lastTxt r := by
  cases r with
  | nil => exact absurd rfl h
  | cons a b => rfl
theorem rows_pos {q : NP} (h : q.Ok) : 0 < q.rows.length := by
  cases q with
  | txt ls => exact Nat.pos_of_ne_zero fun z => h.1 (List.length_eq_zero_iff.mp z)
  | ex c d ss ws =>
    show 0 < (srows d ss ++ ws.map (sps d ++ ·)).length
    rw [List.length_append, srows_len]
    have : ss.length ≠ 0 := fun z => h.1 (List.length_eq_zero_iff.mp z)
    omega
theorem nl_rows_len (s m : Nat) (q : NP) : (nl s m q).rows.length = q.rows.length := by
  unfold nl
  rw [norm_rows_len]
  cases q with
  | txt ls => exact List.length_map _
  | ex c d ss ws =>
    show (srows (d + s - m) ss ++ ws.map (sps (d + s - m) ++ ·)).length = (srows d ss ++ ws.map (sps d ++ ·)).length
    rw [List.length_append, List.length_append, srows_len, srows_len, List.length_map, List.length_map]
theorem fedT_ne {R : List (List Nat)} (h : R ≠ []) : fedT R ≠ [] := by
  rw [fedT_ten h]
  simp
theorem drop_app {X Y : List Nat} (h : Y ≠ []) : X ++ Y.dropLast = (X ++ Y).dropLast := by
  rw [List.dropLast_append_of_ne_nil h]
theorem joined_text {R1 : List (List Nat)} {m s : Nat} {e : Bool} : ∀ (ns : List NP) (o : Nat), (∀ q ∈ ns, q.Ok) → o + (rowsAll ns).length = R1.length → R1.drop o = (rowsAll ns).map (shl s) →
    joinL [] ((pcsOf R1 m s e o ns).map pcT) = if (lastTxt ns && !e) = true then (fedT (rowsAll (ns.map (nl s m)))).dropLast else fedT (rowsAll (ns.map (nl s m)))
  | [], _, _, _, _ => rfl
  | q :: r, o, ho, hl, hd => by
    have hq := ho q (List.mem_cons_self ..)
    have er : (rowsAll (q :: r)).length = q.rows.length + (rowsAll r).length := by rw [rowsAll_cons, List.length_append]
    have ih := joined_text (R1 := R1) (m := m) (s := s) (e := e) r (o + q.rows.length) (fun x hx => ho x (List.mem_cons_of_mem _ hx)) (by omega) (by
      rw [← List.drop_drop, hd, rowsAll_cons, List.map_append, List.drop_left' (List.length_map _)])
    rw [List.map_cons, rowsAll_cons, fedT_app]
    show joinL [] (pcT (pcOf R1 m s e o q) :: (pcsOf R1 m s e (o + q.rows.length) r).map pcT) = _
    rw [joinL_flat, ih]
    have rne : r ≠ [] → rowsAll (r.map (nl s m)) ≠ [] := fun h => by
      cases r with
      | nil => exact absurd rfl h
      | cons a b =>
        rw [List.map_cons, rowsAll_cons]
        intro z
        have h0 := congrArg List.length (List.append_eq_nil_iff.mp z).1
        rw [nl_rows_len] at h0
        have := rows_pos (ho a (by simp))
        have e0 : ([] : List (List Nat)).length = 0 := rfl
        omega
    -- what the first part's text is
    have first : pcT (pcOf R1 m s e o q) = if (decide (r = []) && (q.isTxt && !e)) = true then (fedT (nl s m q).rows).dropLast else fedT (nl s m q).rows := by
      cases q with
      | txt ts =>
        have e1 : ((R1.drop o).take ts.length).map (·.drop m) = (nl s m (.txt ts)).rows := by
          rw [hd, rowsAll_cons, List.map_append, List.take_left' (by rw [List.length_map]; rfl)]
          show (ts.map (shl s)).map (·.drop m) = ts.map fun l => (shl s l).drop m
          rw [List.map_map]
          rfl
        have e2 : decide (o + ts.length = R1.length) = decide (r = []) := by
          have hts : (NP.txt ts).rows.length = ts.length := rfl
          by_cases hr : r = []
          · rw [decide_eq_true hr]
            subst hr
            have e0 : (rowsAll []).length = 0 := rfl
            exact decide_eq_true (by omega)
          · rw [decide_eq_false hr]
            refine decide_eq_false fun z => ?_
            cases r with
            | nil => exact hr rfl
            | cons a b =>
              have := rows_pos (ho a (by simp))
              have e3 : (rowsAll (a :: b)).length = a.rows.length + (rowsAll b).length := by rw [rowsAll_cons, List.length_append]
              omega
        show (if (decide (o + ts.length = R1.length) && !e) = true then (fedT (((R1.drop o).take ts.length).map (·.drop m))).dropLast else fedT (((R1.drop o).take ts.length).map (·.drop m))) = if (decide (r = []) && (true && !e)) = true then (fedT (nl s m (.txt ts)).rows).dropLast else fedT (nl s m (.txt ts)).rows
        rw [e1, e2, Bool.true_and]
      | ex c d ss ws =>
        have e1 : (decide (r = []) && ((NP.ex c d ss ws).isTxt && !e)) = false := Bool.and_false _
        rw [e1, if_neg Bool.false_ne_true]
        show joinL [] ((wrows (d + s - m) (ss.map (·.1)) ws).map (· ++ [10])) = fedT ((NP.ex c (d + s - m) ss ws).norm.rows)
        rw [norm_wrows]
        rfl
    rw [first]
    by_cases hr : r = []
    · subst hr
      rw [decide_eq_true rfl, Bool.true_and]
      have e0 : fedT (rowsAll (([] : List NP).map (nl s m))) = [] := rfl
      have e1 : (lastTxt [] && !e) = false := rfl
      rw [e1, if_neg Bool.false_ne_true, e0, List.append_nil, List.append_nil]
      rfl
    · rw [decide_eq_false hr, Bool.false_and, if_neg Bool.false_ne_true, lastTxt_cons q hr]
      split
      · exact drop_app (fedT_ne (rne hr))
      · rfl
/-- whether a line feed stands at the end of what is joined -/
def endJ (e : Bool) (ns : List NP) : Bool := decide (ns ≠ []) && !(lastTxt ns && !e)
theorem joined_rows {ns : List NP} {m s : Nat} {e : Bool} (ho : ∀ q ∈ ns, q.Ok) : joinL [] ((pcsOf ((rowsAll ns).map (shl s)) m s e 0 ns).map pcT) = joinL [10] (rowsAll (ns.map (nl s m))) ++ endL (endJ e ns) := by
  rw [joined_text ns 0 ho (by rw [List.length_map, Nat.zero_add]) rfl]
  unfold endJ
  cases ns with
  | nil => rfl
  | cons q r =>
    have hne : rowsAll ((q :: r).map (nl s m)) ≠ [] := by
      rw [List.map_cons, rowsAll_cons]
      intro z
      have h0 := congrArg List.length (List.append_eq_nil_iff.mp z).1
      rw [nl_rows_len] at h0
      have := rows_pos (ho q (by simp))
      have e0 : ([] : List (List Nat)).length = 0 := rfl
      omega
    rw [fedT_ten hne, decide_eq_true (by simp), Bool.true_and]
    cases hh : (lastTxt (q :: r) && !e) with
    | true =>
      rw [if_pos rfl, List.dropLast_concat]
      exact (List.append_nil _).symm
    | false =>
      rw [if_neg Bool.false_ne_true]
      rfl

/-! ### smoothed is joined -/
theorem smP_nil : smP [] = false := by decide +kernel
theorem smP_lead {l : List Nat} {m : Nat} (h : m ≤ lead l) : smP (l.drop m) = smP l := by
  unfold smP
  rw [drop_lead h]
theorem smP_sps (n : Nat) (l : List Nat) : smP (sps n ++ l) = smP l := by
  unfold smP
  rw [drop_sps]
theorem spaces_lead {l : List Nat} (h : spaces l = true) : l.drop (lead l) = [] := by
  obtain ⟨h1, h2⟩ := lead_parts l
  cases e : l.drop (lead l) with
  | nil => rfl
  | cons c r =>
    exfalso
    have hm : c ∈ l := by
      have : c ∈ l.drop (lead l) := by rw [e]; exact List.mem_cons_self ..
      exact List.mem_of_mem_drop this
    unfold spaces at h
    rw [List.all_eq_true] at h
    have := beq_iff_eq.mp (h c hm)
    rw [e, this] at h2
    exact h2 rfl
theorem smP_spaces {l : List Nat} (h : spaces l = true) : smP l = false := by
  unfold smP
  rw [spaces_lead h]
  decide +kernel
theorem spaces_dropN {l : List Nat} (h : spaces l = true) (m : Nat) : spaces (l.drop m) = true := by
  unfold spaces at h ⊢
  rw [List.all_eq_true] at h ⊢
  exact fun c hc => h c (List.mem_of_mem_drop hc)
theorem sm_gt : (">>> " : Str) = mk (P3 ++ [32]) := ext_tl (by decide +kernel)
theorem sm_dots : ("... " : Str) = mk (D3 ++ [32]) := ext_tl (by decide +kernel)
theorem mk_beq (a x : List Nat) : (mk a == mk x) = decide (x = a) := by
  rw [Bool.eq_iff_iff, beq_iff_eq, decide_eq_true_iff]
  constructor
  · intro h
    exact (congrArg tl h).symm
  · rintro rfl
    rfl
theorem inV_str2 (x a b : List Nat) : inV (.str (mk x)) [.str (mk a), .str (mk b)] = (decide (x = a) || decide (x = b)) := by
  show ((mk a == mk x) || ((mk b == mk x) || false)) = _
  rw [mk_beq, mk_beq, Bool.or_false]
theorem smP_iff (l : List Nat) : smP l = (decide (l.drop (lead l) = P3 ++ [32]) || decide (l.drop (lead l) = D3 ++ [32])) := by
  unfold smP
  rw [sm_gt, sm_dots, inV_str2]
theorem smL_row {D : Nat} {P : List Nat} (hP : P = P3 ∨ P = D3) {p : List Nat × List Nat} (h : BOk p) : smL (srow D P p.2) = srow D P (bodyOf p.1) := by
  have hl : lead (P ++ p.2) = 0 := by
    rcases hP with rfl | rfl
    · exact lead_ne _ (by decide)
    · exact lead_ne _ (by decide)
  have e0 : smP (srow D P p.2) = (decide (P ++ p.2 = P3 ++ [32]) || decide (P ++ p.2 = D3 ++ [32])) := by
    unfold srow
    rw [smP_sps, smP_iff, hl, List.drop_zero]
  rcases h with h | ⟨h1, h2⟩
  · by_cases hb : p.1 = []
    · rw [hb] at h
      have e1 : smP (srow D P p.2) = true := by
        rw [e0, h]
        rcases hP with rfl | rfl <;> decide
      unfold smL
      rw [e1, if_pos rfl, h, hb]
      unfold srow bodyOf
      rw [if_pos rfl, List.append_nil, ← List.append_assoc, List.dropLast_concat]
    · have e1 : smP (srow D P p.2) = false := by
        rw [e0, h, Bool.or_eq_false_iff, decide_eq_false_iff_not, decide_eq_false_iff_not]
        have ne : ∀ Z : List Nat, Z.length = 3 → P ++ 32 :: p.1 ≠ Z ++ [32] := fun Z hZ z => by
          have h3 : P.length = 3 := by rcases hP with rfl | rfl <;> rfl
          have := congrArg List.length z
          rw [List.length_append, List.length_append, h3, hZ, List.length_cons] at this
          have h0 : p.1.length = 0 := by
            have e1 : [32].length = 1 := rfl
            omega
          exact hb (List.length_eq_zero_iff.mp h0)
        exact ⟨ne P3 rfl, ne D3 rfl⟩
      unfold smL
      rw [e1, if_neg Bool.false_ne_true, h]
      unfold bodyOf
      rw [if_neg hb]
  · have e1 : smP (srow D P p.2) = false := by
      rw [e0, h2, List.append_nil]
      rcases hP with rfl | rfl <;> decide
    unfold smL
    rw [e1, if_neg Bool.false_ne_true, h1, h2]
    unfold bodyOf
    rw [if_pos rfl]
theorem sm_rows {s m : Nat} {q : NP} (ok : q.Ok) (off : q.Off s m) (nice : q.Nice) : (q.lev s m).rows.map smL = (nl s m q).rows := by
  cases q with
  | txt ls =>
    show (ls.map fun l => (shl s l).drop m).map smL = ls.map fun l => (shl s l).drop m
    rw [List.map_map]
    refine List.map_congr_left fun l hl => ?_
    have h1 := nice l hl
    unfold lnice at h1
    rw [Bool.and_eq_true, Bool.not_eq_true'] at h1
    have e : smP ((shl s l).drop m) = false := by
      unfold shl
      cases hs : spaces l with
      | true =>
        rw [if_pos rfl]
        exact smP_spaces (spaces_dropN hs m)
      | false =>
        rw [if_neg Bool.false_ne_true, smP_lead (by rw [lead_sps]; exact off l hl hs), smP_sps]
        exact h1.1
    show smL ((shl s l).drop m) = _
    unfold smL
    rw [e, if_neg Bool.false_ne_true]
  | ex c d ss ws =>
    obtain ⟨_, h2, _, _, _⟩ := ok
    show (srows (d + s - m) ss ++ ws.map (sps (d + s - m) ++ ·)).map smL = srows (d + s - m) (ss.map fun p => (p.1, bodyOf p.1)) ++ ws.map (sps (d + s - m) ++ ·)
    rw [List.map_append]
    congr 1
    · cases ss with
      | nil => rfl
      | cons p r =>
        show smL (srow (d + s - m) P3 p.2) :: (r.map fun q => srow (d + s - m) D3 q.2).map smL = srow (d + s - m) P3 (bodyOf p.1) :: (r.map fun p => (p.1, bodyOf p.1)).map fun q => srow (d + s - m) D3 q.2
        rw [smL_row (.inl rfl) (h2 p (List.mem_cons_self ..)).1, List.map_map, List.map_map]
        congr 1
        exact List.map_congr_left fun q hq => smL_row (.inr rfl) (h2 q (List.mem_cons_of_mem _ hq)).1
    · rw [List.map_map]
      refine List.map_congr_left fun w hw => ?_
      have h1 := nice.2 w hw
      unfold lnice at h1
      rw [Bool.and_eq_true, Bool.not_eq_true'] at h1
      show smL (sps (d + s - m) ++ w) = _
      unfold smL
      rw [smP_sps, h1.1, if_neg Bool.false_ne_true]
theorem sm_rowsAll {s m : Nat} : ∀ {ns : List NP}, (∀ q ∈ ns, q.Ok ∧ q.Off s m ∧ q.Nice) → (rowsAll (ns.map (NP.lev s m))).map smL = rowsAll (ns.map (nl s m))
  | [], _ => rfl
  | q :: r, h => by
    have hq := h q (List.mem_cons_self ..)
    rw [List.map_cons, List.map_cons, rowsAll_cons, rowsAll_cons, List.map_append, sm_rows hq.1 hq.2.1 hq.2.2, sm_rowsAll fun x hx => h x (List.mem_cons_of_mem _ hx)]

/-! ### smoothed, whole -/
theorem cut_end (x : List Nat) (c : Nat) : cutS (mk (x ++ [c])) (some (-1)) none = mk [c] := by
  refine ext_tl ?_
  show ((x ++ [c]).drop (HT.sIx (mk (x ++ [c])).length 0 (some (-1 : Int)))).take (HT.sIx (mk (x ++ [c])).length (mk (x ++ [c])).length none - HT.sIx (mk (x ++ [c])).length 0 (some (-1 : Int))) = [c]
  have e1 : HT.sIx (mk (x ++ [c])).length 0 (some (-1 : Int)) = x.length := by
    rw [mk_len, List.length_append]
    show (if (-1 : Int) < 0 then ((-1 : Int) + ((x.length + 1 : Nat) : Int)).toNat else min (-1 : Int).toNat (x.length + 1)) = _
    rw [if_pos (by decide)]
    omega
  rw [e1, HT.sIx_none, mk_len, List.length_append, List.drop_left' rfl]
  show [c].take (x.length + 1 - x.length) = [c]
  rw [Nat.add_sub_cancel_left]
  rfl
theorem noEnd_snoc (x : List Nat) (c : Nat) : noEnd (x ++ [c]) = !decide (c = 10) := by
  unfold noEnd
  rw [cut_end]
  congr 1
  have en : ("\n" : Str) = mk [10] := ten_eq
  rw [en, Bool.eq_iff_iff, decide_eq_true_iff, decide_eq_true_iff]
  constructor
  · intro h
    have := congrArg (fun v => match v with | V.str y => tl y | _ => []) h
    exact List.head_eq_of_cons_eq this
  · rintro rfl
    rfl
theorem join_snoc (r : List Nat) : ∀ a : List (List Nat), ∃ X, joinL [10] (a ++ [r]) = X ++ r
  | [] => ⟨[], rfl⟩
  | b :: y => by
    obtain ⟨X, e⟩ := join_snoc r y
    rw [List.cons_append, joinL_more _ _ (by simp), e]
    exact ⟨b ++ ([10] ++ X), by simp⟩
theorem rows_ex_ne {c : Bool} {d : Nat} {ss : List (List Nat × List Nat)} {ws : List (List Nat)} (h : (NP.ex c d ss ws).Ok) : ∀ l ∈ (NP.ex c d ss ws).norm.rows, l ≠ [] := fun l hl z => by
  obtain ⟨_, _, _, h4, _⟩ := h
  rw [norm_wrows, ← hrows_wr] at hl
  obtain ⟨x, hx, rfl⟩ := List.mem_map.mp hl
  have x0 : x = [] := (List.append_eq_nil_iff.mp z).2
  subst x0
  rcases List.mem_append.mp hx with h | h
  · obtain ⟨j, hj⟩ := List.getElem?_of_mem h
    have hj2 : j < (ss.map (·.1)).length := by
      have := (List.getElem?_eq_some_iff.mp hj).1
      rw [hrows_len] at this
      exact this
    have := hrows_get (List.getElem?_eq_getElem hj2)
    rw [this] at hj
    have h0 := (List.append_eq_nil_iff.mp (Option.some.inj hj)).1
    split at h0 <;> cases h0
  · have := (h4 _ h).1
    cases this
theorem last_rows {s m : Nat} : ∀ {ns : List NP}, (∀ q ∈ ns, q.Ok ∧ q.Off s m) → ns ≠ [] → lastTxt ns = false → ∃ a r, rowsAll (ns.map (nl s m)) = a ++ [r] ∧ r ≠ []
  | [], _, h, _ => absurd rfl h
  | [.txt ts], _, _, h => by cases h
  | [.ex c d ss ws], ho, _, _ => by
    have hq := ho _ (List.mem_cons_self ..)
    have e : rowsAll ([NP.ex c d ss ws].map (nl s m)) = (NP.ex c (d + s - m) ss ws).norm.rows := List.append_nil _
    have hok : (NP.ex c (d + s - m) ss ws).Ok := hq.1
    have hne : (NP.ex c (d + s - m) ss ws).norm.rows ≠ [] := fun z => by
      have h1 := rows_pos (norm_ok hok)
      rw [z] at h1
      exact absurd h1 (Nat.lt_irrefl 0)
    rw [e]
    exact ⟨_, _, (List.dropLast_concat_getLast hne).symm, rows_ex_ne hok _ (List.getLast_mem hne)⟩
  | q :: y :: r, ho, _, h => by
    obtain ⟨a, x, e, hx⟩ := last_rows (ns := y :: r) (fun z hz => ho z (List.mem_cons_of_mem _ hz)) (by simp) h
    rw [List.map_cons, rowsAll_cons, e]
    exact ⟨(nl s m q).rows ++ a, x, (List.append_assoc ..).symm, hx⟩
theorem smL_nil : smL [] = [] := by
  unfold smL
  split <;> rfl
theorem smoothed_is {ns : List NP} {s m : Nat} {e : Bool} {init ls : List (List Nat)} {last : List Nat} (rd : Rd ((rowsAll ns).map (shl s)) m e init last ls) (h : ∀ q ∈ ns, q.Ok ∧ q.Off s m ∧ q.Nice) (he : EndOk ((rowsAll ns).map (shl s)) e) (h10 : Rows10 (rowsAll (ns.map (nl s m)))) :
    smT (init ++ [last]) (decide (ns ≠ []) && !lastTxt ns) = joinL [10] (rowsAll (ns.map (nl s m))) ++ endL (endJ e ns) := by
  have lv := rowsAll_lev (s := s) (m := m) (ns := ns) fun q hq => ⟨(h q hq).1, (h q hq).2.1⟩
  have hR : rowsOf init last = rowsAll (ns.map (NP.lev s m)) := rd.rows.trans lv.symm
  have hS := sm_rowsAll h
  have hends : ∀ x : List Nat, noEnd (x ++ [10]) = false := fun x => by
    rw [noEnd_snoc]
    rfl
  cases ns with
  | nil =>
    have hl := rd.lst.mpr (.inr rfl)
    subst hl
    have hi : init = [] := by
      have : init ++ [] = rowsAll [] := hR
      rw [List.append_nil] at this
      exact this
    subst hi
    show joinL [10] [smL []] ++ (if (false && _) = true then [10] else []) = [] ++ []
    rw [Bool.false_and, if_neg Bool.false_ne_true, smL_nil]
    rfl
  | cons q r =>
    have hne : rowsAll ((q :: r).map (nl s m)) ≠ [] := by
      rw [List.map_cons, rowsAll_cons]
      intro z
      have h0 := congrArg List.length (List.append_eq_nil_iff.mp z).1
      rw [nl_rows_len] at h0
      have := rows_pos (h q (by simp)).1
      have e0 : ([] : List (List Nat)).length = 0 := rfl
      omega
    have hR1 : (rowsAll (q :: r)).map (shl s) ≠ [] := fun z => by
      have h0 := congrArg List.length z
      rw [List.length_map, rowsAll_cons, List.length_append] at h0
      have := rows_pos (h q (by simp)).1
      have e0 : ([] : List (List Nat)).length = 0 := rfl
      omega
    unfold smT endJ
    rw [decide_eq_true (show q :: r ≠ [] by simp), Bool.true_and, Bool.true_and]
    cases e with
    | true =>
      have hl := rd.lst.mpr (.inl rfl)
      subst hl
      have hi : init = rowsAll ((q :: r).map (NP.lev s m)) := by
        have : init ++ [] = _ := hR
        rw [List.append_nil] at this
        exact this
      have ej : joinL [10] ((init ++ [[]]).map smL) = joinL [10] (rowsAll ((q :: r).map (nl s m))) ++ [10] := by
        rw [List.map_append, hi, hS]
        show joinL [10] (_ ++ [smL []]) = _
        rw [smL_nil, ← ten_last _ hne]
      rw [ej, hends, Bool.and_false, if_neg Bool.false_ne_true, List.append_nil, Bool.not_true, Bool.and_false]
      rfl
    | false =>
      have hl : last ≠ [] := fun z => (rd.lst.mp z).elim (fun z => Bool.noConfusion z) hR1
      have hi : init ++ [last] = rowsAll ((q :: r).map (NP.lev s m)) := by
        rw [← hR]
        unfold rowsOf ifAny
        cases last with
        | nil => exact absurd rfl hl
        | cons c y => rfl
      rw [hi, hS, Bool.not_false, Bool.and_true]
      cases ht : lastTxt (q :: r) with
      | true =>
        rw [Bool.not_true, Bool.false_and, if_neg Bool.false_ne_true]
        rfl
      | false =>
        obtain ⟨a, x, ea, hx⟩ := last_rows (s := s) (m := m) (fun z hz => ⟨(h z hz).1, (h z hz).2.1⟩) (by simp) ht
        obtain ⟨X, eX⟩ := join_snoc x a
        have h10x : (10 : Nat) ∉ x := h10 x (by rw [ea]; simp)
        have hn : noEnd (joinL [10] (rowsAll ((q :: r).map (nl s m)))) = true := by
          rw [ea, eX, ← List.dropLast_concat_getLast hx, ← List.append_assoc, noEnd_snoc]
          have : x.getLast hx ≠ 10 := fun z => h10x (by rw [← z]; exact List.getLast_mem hx)
          rw [decide_eq_false this]
          rfl
        rw [hn]
        rfl

/-! ### read again -/
theorem least_levW (ws : List (List Nat)) : leastN (leads (levW ws)) = 0 := by
  unfold levW
  generalize hm : leastN (leads ws) = m
  have hle : ∀ l ∈ ws, spaces l = false → m ≤ lead l := fun l hl hs => by
    have h : lead l ∈ leads ws := List.mem_map.mpr ⟨l, List.mem_filter.mpr ⟨hl, by rw [hs]; rfl⟩, rfl⟩
    rw [← hm]
    exact (leastN_spec (ns := leads ws) (fun z => by rw [z] at h; cases h)).2 _ h
  have hsp : ∀ l ∈ ws, spaces (l.drop m) = spaces l := fun l hl => by
    cases hs : spaces l with
    | false => rw [spaces_drop (hle l hl hs), hs]
    | true =>
      unfold spaces at hs ⊢
      rw [List.all_eq_true] at hs ⊢
      exact fun c hc => hs c (List.mem_of_mem_drop hc)
  by_cases hn : leads ws = []
  · have e2 : leads (ws.map (·.drop m)) = [] := by
      unfold leads at hn ⊢
      rw [List.map_eq_nil_iff, List.filter_eq_nil_iff] at hn ⊢
      intro l hl
      obtain ⟨l', hl', rfl⟩ := List.mem_map.mp hl
      show ¬ (!spaces (l'.drop m)) = true
      rw [hsp l' hl']
      exact hn l' hl'
    rw [e2]
    rfl
  · have g := leastN_spec hn
    rw [hm] at g
    obtain ⟨l, hl, e⟩ := List.mem_map.mp g.1
    obtain ⟨hl1, hl2⟩ := List.mem_filter.mp hl
    have hl3 : spaces l = false := by
      cases z : spaces l with
      | false => rfl
      | true =>
        rw [z] at hl2
        cases hl2
    have h0 : (0 : Nat) ∈ leads (ws.map (·.drop m)) := by
      refine List.mem_map.mpr ⟨l.drop m, List.mem_filter.mpr ⟨List.mem_map.mpr ⟨l, hl1, rfl⟩, ?_⟩, ?_⟩
      · rw [hsp l hl1, hl3]
        rfl
      · rw [lead_drop l m (by omega)]
        omega
    exact (leastN_eq h0 fun y _ => Nat.zero_le y).symm
theorem shl0 (l : List Nat) : shl 0 l = l := by
  unfold shl
  split <;> rfl
theorem shl0_map (x : List (List Nat)) : x.map (shl 0) = x := (List.map_congr_left fun l _ => shl0 l).trans (List.map_id _)
theorem sm_keeps (l : List Nat) : spaces (smL l) = spaces l ∧ (spaces l = false → lead (smL l) = lead l) := by
  unfold smL
  cases hs : smP l with
  | false =>
    rw [if_neg Bool.false_ne_true]
    exact ⟨rfl, fun _ => rfl⟩
  | true =>
    rw [if_pos rfl]
    have h := smP_iff l
    rw [hs] at h
    obtain ⟨hl, _⟩ := lead_parts l
    have fin : ∀ P : List Nat, (P = P3 ∨ P = D3) → l.drop (lead l) = P ++ [32] → spaces l.dropLast = spaces l ∧ (spaces l = false → lead l.dropLast = lead l) := fun P hP e => by
      rw [e] at hl
      have e2 : l.dropLast = sps (lead l) ++ P := by
        conv => lhs; rw [hl]
        rw [← List.append_assoc, List.dropLast_concat]
      have hP2 : spaces P = false ∧ lead P = 0 := by rcases hP with rfl | rfl <;> decide
      have h1 : spaces l = false := by
        rw [hl, spaces_app]
        rcases hP with rfl | rfl <;> decide
      rw [e2, spaces_app, hP2.1, h1]
      exact ⟨rfl, fun _ => by rw [lead_sps, hP2.2, Nat.add_zero]⟩
    rcases (Bool.or_eq_true _ _).mp h.symm with h | h
    · exact fin P3 (.inl rfl) (of_decide_eq_true h)
    · exact fin D3 (.inr rfl) (of_decide_eq_true h)
theorem leads_sm : ∀ R : List (List Nat), leads (R.map smL) = leads R
  | [] => rfl
  | l :: r => by
    have ih := leads_sm r
    obtain ⟨h1, h2⟩ := sm_keeps l
    unfold leads at ih ⊢
    rw [List.map_cons, List.filter_cons, List.filter_cons, h1]
    cases hs : spaces l with
    | true => exact ih
    | false =>
      show lead (smL l) :: _ = lead l :: _
      rw [h2 hs, ih]
theorem dues_again {R1 RN : List (List Nat)} {m s : Nat} {e e' : Bool} (hlen : RN.length = R1.length) : ∀ (ns : List NP) (o : Nat), (∀ q ∈ ns, q.Ok ∧ q.Off s m) → o + (rowsAll ns).length = R1.length → R1.drop o = (rowsAll ns).map (shl s) → RN.drop o = rowsAll (ns.map (nl s m)) → (lastTxt ns = true → e' = e) →
    duesB RN 0 0 e' o (ns.map (nl s m)) = duesB R1 m s e o ns
  | [], _, _, _, _, _, _ => rfl
  | q :: r, o, ho, hl, hd, hN, he => by
    have hq := ho q (List.mem_cons_self ..)
    have er : (rowsAll (q :: r)).length = q.rows.length + (rowsAll r).length := by rw [rowsAll_cons, List.length_append]
    have ih := dues_again (R1 := R1) (RN := RN) (m := m) (s := s) (e := e) (e' := e') hlen r (o + q.rows.length) (fun x hx => ho x (List.mem_cons_of_mem _ hx)) (by omega) (by
      rw [← List.drop_drop, hd, rowsAll_cons, List.map_append, List.drop_left' (List.length_map _)]) (by
      rw [← List.drop_drop, hN, List.map_cons, rowsAll_cons, List.drop_left' (nl_rows_len s m q)]) (fun h => he (by
        rw [lastTxt_cons q (fun z => by rw [z] at h; cases h)]
        exact h))
    rw [List.map_cons]
    show dueOf RN 0 0 e' o (nl s m q) :: duesB RN 0 0 e' (o + (nl s m q).rows.length) (r.map (nl s m)) = dueOf R1 m s e o q :: duesB R1 m s e (o + q.rows.length) r
    rw [nl_rows_len, ih]
    congr 1
    cases q with
    | txt ts =>
      have e1 : ((R1.drop o).take ts.length).map (fun l => l.drop m ++ [10]) = ((nl s m (.txt ts)).rows).map (· ++ [10]) := by
        rw [hd, rowsAll_cons, List.map_append, List.take_left' (by rw [List.length_map]; rfl)]
        show (ts.map (shl s)).map _ = (ts.map fun l => (shl s l).drop m).map _
        rw [List.map_map, List.map_map]
        rfl
      have lt : (ts.map fun l => (shl s l).drop m).length = ts.length := List.length_map _
      have e2 : ((RN.drop o).take ts.length).map (fun l => l.drop 0 ++ [10]) = ((nl s m (.txt ts)).rows).map (· ++ [10]) := by
        have lt2 : (nl s m (.txt ts)).rows.length = ts.length := lt
        rw [hN, List.map_cons, rowsAll_cons, List.take_left' lt2]
        rfl
      have e3 : (decide (o + ts.length = RN.length) && !e') = (decide (o + ts.length = R1.length) && !e) := by
        rw [hlen]
        cases hc : decide (o + ts.length = R1.length) with
        | false => rfl
        | true =>
          have hc := of_decide_eq_true hc
          have hts : (NP.txt ts).rows.length = ts.length := rfl
          have hr : r = [] := by
            cases r with
            | nil => rfl
            | cons a b =>
              have := rows_pos (ho a (by simp)).1
              have e3 : (rowsAll (a :: b)).length = a.rows.length + (rowsAll b).length := by rw [rowsAll_cons, List.length_append]
              omega
          subst hr
          rw [he rfl]
      show Due.txt (if (decide (o + (ts.map fun l => (shl s l).drop m).length = RN.length) && !e') = true then mk (joinL [] (((RN.drop o).take (ts.map fun l => (shl s l).drop m).length).map fun l => l.drop 0 ++ [10])).dropLast else mk (joinL [] (((RN.drop o).take (ts.map fun l => (shl s l).drop m).length).map fun l => l.drop 0 ++ [10]))) = Due.txt (if (decide (o + ts.length = R1.length) && !e) = true then mk (joinL [] (((R1.drop o).take ts.length).map fun l => l.drop m ++ [10])).dropLast else mk (joinL [] (((R1.drop o).take ts.length).map fun l => l.drop m ++ [10])))
      rw [lt, e1, e2, e3]
    | ex c d ss ws =>
      have ei : ((d + s - m : Nat) : Int) + ((0 : Nat) : Int) - ((0 : Nat) : Int) = (d : Int) + s - m := by
        have : m ≤ d + s := hq.2
        omega
      cases c with
      | true =>
        show Due.com (rowsT ((ss.map fun p => (p.1, bodyOf p.1)).map (·.1))) (rowsT ws) _ _ = Due.com _ _ _ _
        rw [norm_fst, ei]
      | false =>
        show Due.exa (rowsT ((ss.map fun p => (p.1, bodyOf p.1)).map (·.1))) (rowsT ws) _ _ _ (bareLT ((ss.map fun p => (p.1, bodyOf p.1)).map (·.1))) = Due.exa _ _ _ _ _ _
        rw [norm_fst, ei]

/-! ### tabs put in -/
theorem rp_facts : ∀ (k : Nat) (l : List Nat), l.length ≤ k → (∀ c ∈ rp l, c = 9 ∨ c ∈ l) ∧ (rp l).length ≤ l.length
  | _, [], _ => by
    rw [rp_nil]
    exact ⟨nofun, Nat.le_refl _⟩
  | 0, c :: r, h => by cases h
  | k + 1, c :: r, h => by
    by_cases hh : (c :: r).take 8 = sps 8
    · have h8 : 8 ≤ (c :: r).length := by
        have := congrArg List.length hh
        rw [List.length_take] at this
        have l8 : (sps 8).length = 8 := rfl
        omega
      obtain ⟨i1, i2⟩ := rp_facts k ((c :: r).drop 8) (by rw [List.length_drop]; omega)
      rw [rp_hit hh]
      refine ⟨fun x hx => ?_, ?_⟩
      · rcases List.mem_cons.mp hx with h | h
        · exact .inl h
        · exact (i1 x h).imp id List.mem_of_mem_drop
      · rw [List.length_drop] at i2
        rw [List.length_cons (a := 9)]
        omega
    · obtain ⟨i1, i2⟩ := rp_facts k r (Nat.le_of_succ_le_succ h)
      rw [rp_miss hh]
      refine ⟨fun x hx => ?_, Nat.succ_le_succ i2⟩
      rcases List.mem_cons.mp hx with h | h
      · exact .inr (h ▸ List.mem_cons_self ..)
      · exact (i1 x h).imp id (List.mem_cons_of_mem _)
/-- lines whose runs of eight spaces stand at their beginnings -/
def Tabby (l : List Nat) : Prop := no8 (l.drop (lead l)) = true
theorem tabby_spaces {l : List Nat} (h : spaces l = true) : Tabby l := by
  unfold Tabby
  rw [spaces_lead h]
  rfl
theorem tabby_sps {n : Nat} {l : List Nat} (h : Tabby l) : Tabby (sps n ++ l) := by
  unfold Tabby at h ⊢
  rw [drop_sps]
  exact h
theorem no8_head {c : Nat} {l : List Nat} (hc : c ≠ 32) (h : no8 l = true) : no8 (c :: l) = true := by
  show (!decide ((c :: l).take 8 = sps 8) && no8 l) = true
  rw [h, Bool.and_true, Bool.not_eq_true', decide_eq_false_iff_not]
  intro z
  rw [List.take_succ_cons] at z
  exact hc (List.head_eq_of_cons_eq (z.trans (show sps 8 = 32 :: sps 7 from rfl)))
theorem tabby_row {D : Nat} {P : List Nat} (hP : P = P3 ∨ P = D3) {p : List Nat × List Nat} (hb : BOk p) (h8 : no8 (32 :: p.1) = true) : Tabby (srow D P p.2) := by
  have hr : no8 p.2 = true := by
    rcases hb with h | ⟨_, h⟩
    · rw [h]
      exact h8
    · rw [h]
      rfl
  refine tabby_sps ?_
  unfold Tabby
  rcases hP with rfl | rfl
  · have e : lead (P3 ++ p.2) = 0 := lead_ne _ (by decide)
    rw [e, List.drop_zero]
    exact no8_head (by decide) (no8_head (by decide) (no8_head (by decide) hr))
  · have e : lead (D3 ++ p.2) = 0 := lead_ne _ (by decide)
    rw [e, List.drop_zero]
    exact no8_head (by decide) (no8_head (by decide) (no8_head (by decide) hr))
theorem tabby_shl {s : Nat} {l : List Nat} (h : Tabby l) : Tabby (shl s l) := by
  unfold shl
  split
  · exact h
  · exact tabby_sps h
theorem tabby_rows {q : NP} (ok : q.Ok) (nice : q.Nice) : ∀ l ∈ q.rows, Tabby l := by
  cases q with
  | txt ls =>
    intro l hl
    have h := nice l hl
    unfold lnice at h
    rw [Bool.and_eq_true] at h
    exact h.2
  | ex c d ss ws =>
    obtain ⟨_, h2, _, _, _⟩ := ok
    intro l hl
    rcases List.mem_append.mp hl with h | h
    · obtain ⟨j, hj⟩ := List.getElem?_of_mem h
      obtain ⟨p, hp, rfl⟩ := srows_get d hj
      exact tabby_row (by split; exact .inl rfl; exact .inr rfl) (h2 p hp).1 (nice.1 p hp)
    · obtain ⟨w, hw, rfl⟩ := List.mem_map.mp h
      have h := nice.2 w hw
      unfold lnice at h
      rw [Bool.and_eq_true] at h
      exact tabby_sps h.2
theorem rp_text {x : Str} {ls : List (List Nat)} (h : tl x = joinL [10] ls) : Txt.replace x (Txt.mul " " 8) "\t" = mk (joinL [10] (ls.map rp)) := by
  refine ext_tl ?_
  have e8 : Txt.mul " " 8 = mk (sps 8) := mul_sps 8
  have e9 : ("\t" : Str) = mk [9] := ext_tl (by decide +kernel)
  rw [e8, e9]
  have k := StrLaws.replace_list (x := x) (y := mk (sps 8)) (z := mk [9]) (by decide)
  refine k.trans ?_
  show rp (tl x) = joinL [10] (ls.map rp)
  rw [h, rp_join]
theorem whole_tabs {x : Str} {ls init : List (List Nat)} {last : List Nat} (wh : Whole x ls init last) (ok : ∀ l ∈ ls, okc l = true ∧ l.length ≤ 90) (few : ls.length ≤ 50) (tb : ∀ l ∈ ls, Tabby l) : Whole (mk (joinL [10] (ls.map rp))) (ls.map rp) init last := by
  have e : (ls.map rp).map (Mun.expT 8 0) = ls := by
    rw [List.map_map]
    exact (List.map_congr_left fun l hl => exp_rp (ok l hl).1 (tb l hl)).trans (List.map_id _)
  have e2 : ls.map (Mun.expT 8 0) = ls := exp_rows fun l hl => (ok l hl).1
  refine ⟨rfl, fun z => wh.ne (List.map_eq_nil_iff.mp z), fun l hl c hc => ?_, ?_, ?_, wh.sz, wh.right⟩
  · obtain ⟨l', h', rfl⟩ := List.mem_map.mp hl
    rcases (rp_facts _ l' (Nat.le_refl _)).1 c hc with h | h
    · rw [h]
      decide
    · exact okc_no (ok l' h').1 c h
  · have hx : ∀ l ∈ ls.map rp, l.length ≤ 90 := fun l hl => by
      obtain ⟨l', h', rfl⟩ := List.mem_map.mp hl
      exact Nat.le_trans (rp_facts _ l' (Nat.le_refl _)).2 (ok l' h').2
    show (joinL [10] (ls.map rp)).length ≤ 9000
    have h1 := joinL_len [10] (ps := ls.map rp) (fun z => wh.ne (List.map_eq_nil_iff.mp z))
    have h2 := sum_le_of hx
    have l1 : ([10] : List Nat).length = 1 := rfl
    have lm : (ls.map rp).length = ls.length := List.length_map _
    rw [l1] at h1
    omega
  · rw [e]
    have := wh.lev
    rw [e2] at this
    exact this

/-! ### what is written is nice -/
theorem sim_nice : ∀ {p q : NP}, p.sim q → p.Nice → q.Nice
  | .txt a, .txt b, h, z => by
    have e : a = b := h
    rw [← e]
    exact z
  | .ex c d ss ws, .ex c' d' ss' ws', h, z => by
    obtain ⟨rfl, rfl, h3, rfl⟩ := h
    refine ⟨fun p hp => ?_, z.2⟩
    have h2 : p.1 ∈ ss.map (·.1) := by
      rw [h3]
      exact List.mem_map.mpr ⟨p, hp, rfl⟩
    obtain ⟨q, hq, hq2⟩ := List.mem_map.mp h2
    rw [← hq2]
    exact z.1 q hq
  | .txt _, .ex _ _ _ _, h, _ => h.elim
  | .ex _ _ _ _, .txt _, h, _ => h.elim
theorem sim_niceAll : ∀ {ps ns : List NP}, SimAll ps ns → (∀ p ∈ ps, p.Nice) → ∀ q ∈ ns, q.Nice
  | p :: r, q :: r', h, hz, x, hx => by
    rcases List.mem_cons.mp hx with rfl | hx
    · exact sim_nice h.1 (hz p (List.mem_cons_self ..))
    · exact sim_niceAll h.2 (fun y hy => hz y (List.mem_cons_of_mem _ hy)) x hx
  | [], _ :: _, h, _, _, _ => h.elim
theorem tabby_ls {ns : List NP} {s m : Nat} {e : Bool} {init ls : List (List Nat)} {last : List Nat} (rd : Rd ((rowsAll ns).map (shl s)) m e init last ls) (h : ∀ q ∈ ns, q.Ok ∧ q.Nice) : ∀ l ∈ ls, Tabby l := fun l hl => by
  rcases rd.mem l hl with h1 | h1
  · obtain ⟨l', h2, rfl⟩ := List.mem_map.mp h1
    obtain ⟨x, hx, hl'⟩ := List.mem_flatten.mp h2
    obtain ⟨q, hq, rfl⟩ := List.mem_map.mp hx
    exact tabby_shl (tabby_rows (h q hq).1 (h q hq).2 l' hl')
  · rw [h1]
    rfl
/-- the parts as they are joined: they stand well, their rows are few and short -/
theorem nl_seq {ns : List NP} {s m : Nat} (sq : SeqOk ns) (off : ∀ q ∈ ns, q.Off s m) : SeqOk (ns.map (nl s m)) := by
  have h := seq_norm (seq_lev sq off)
  rw [List.map_map] at h
  exact h
theorem nl_rows_sz {ns : List NP} {s m b : Nat} (h : ∀ q ∈ ns, q.Ok ∧ q.Off s m ∧ q.Nice) (rs : ∀ l ∈ (rowsAll ns).map (shl s), szL b l) : ∀ l ∈ rowsAll (ns.map (nl s m)), szL b l := by
  intro l hl
  rw [← sm_rowsAll h, rowsAll_lev fun q hq => ⟨(h q hq).1, (h q hq).2.1⟩] at hl
  obtain ⟨x, hx, rfl⟩ := List.mem_map.mp hl
  obtain ⟨y, hy, rfl⟩ := List.mem_map.mp hx
  obtain ⟨h1, h2⟩ := rs y hy
  have sub : ∀ c ∈ smL (y.drop m), c ∈ y := fun c hc => by
    unfold smL at hc
    split at hc
    · exact List.mem_of_mem_drop ((List.dropLast_sublist _).mem hc)
    · exact List.mem_of_mem_drop hc
  refine ⟨?_, ?_⟩
  · unfold okc at h1 ⊢
    rw [List.all_eq_true] at h1 ⊢
    exact fun c hc => h1 c (sub c hc)
  · have : (smL (y.drop m)).length ≤ (y.drop m).length := by
      unfold smL
      split
      · rw [List.length_dropLast]
        omega
      · exact Nat.le_refl _
    rw [List.length_drop] at this
    omega
theorem nl_rows_few (s m : Nat) : ∀ ns : List NP, (rowsAll (ns.map (nl s m))).length = (rowsAll ns).length
  | [] => rfl
  | q :: r => by
    rw [List.map_cons, rowsAll_cons, rowsAll_cons, List.length_append, List.length_append, nl_rows_len, nl_rows_few s m r]
/-- the least of the rows joined is 0 -/
theorem nl_least {ns : List NP} {s m : Nat} (hm : leastN (leads ((rowsAll ns).map (shl s))) = m) (h : ∀ q ∈ ns, q.Ok ∧ q.Off s m ∧ q.Nice) : leastN (leads (rowsAll (ns.map (nl s m)))) = 0 := by
  rw [← sm_rowsAll h, leads_sm, rowsAll_lev fun q hq => ⟨(h q hq).1, (h q hq).2.1⟩]
  have := least_levW ((rowsAll ns).map (shl s))
  unfold levW at this
  rw [hm] at this
  exact this

/-! ### what is joined, read -/
theorem joined_whole {ns : List NP} {s m : Nat} {e : Bool} (sq : SeqOk ns) (hm : leastN (leads ((rowsAll ns).map (shl s))) = m) (h : ∀ q ∈ ns, q.Ok ∧ q.Off s m ∧ q.Nice) (few : ((rowsAll ns).map (shl s)).length ≤ 49) (rs : ∀ l ∈ (rowsAll ns).map (shl s), szL 90 l) (he : EndOk ((rowsAll ns).map (shl s)) e) :
    ∃ (init ls : List (List Nat)) (last : List Nat), Whole (mk (joinL [10] (rowsAll (ns.map (nl s m))) ++ endL (endJ e ns))) ls init last ∧ ∀ (C D : Addr) (H : Hp) (us : List V), PcsAt C D (rowsOf init last) H us (piecesL (keptOf init last) 0 (cutsL (rowsOf init last) 0)) → Paired (Fit C D H) us (duesB ((rowsAll ns).map (shl s)) m s e 0 ns) := by
  have e0 : (rowsAll (ns.map (nl s m))).map (shl 0) = rowsAll (ns.map (nl s m)) := shl0_map _
  have eN : rowsAll (ns.map (nl s m)) = (((rowsAll ns).map (shl s)).map (·.drop m)).map smL := by
    rw [← sm_rowsAll h, rowsAll_lev fun q hq => ⟨(h q hq).1, (h q hq).2.1⟩]
  have len : (rowsAll (ns.map (nl s m))).length = ((rowsAll ns).map (shl s)).length := by
    rw [eN, List.length_map, List.length_map]
  have heN : EndOk ((rowsAll (ns.map (nl s m))).map (shl 0)) (endJ e ns) := by
    rw [e0]
    refine ⟨fun z => ?_, fun hj l' hl' => ?_⟩
    · unfold endJ
      cases ns with
      | nil => rfl
      | cons q r =>
        exfalso
        have h0 := congrArg List.length z
        rw [nl_rows_few, rowsAll_cons, List.length_append] at h0
        have := rows_pos (h q (by simp)).1
        have e0 : ([] : List (List Nat)).length = 0 := rfl
        omega
    · have hne : ns ≠ [] := fun z => by
        rw [z] at hl'
        cases hl'
      unfold endJ at hj
      rw [decide_eq_true hne, Bool.true_and, Bool.not_eq_false', Bool.and_eq_true, Bool.not_eq_true'] at hj
      rw [eN, List.map_map, List.getLast?_map] at hl'
      obtain ⟨l0, h0, rfl⟩ := Option.map_eq_some_iff.mp hl'
      have hs0 := he.2 hj.2 l0 h0
      have hle : m ≤ lead l0 := by
        have h2 : lead l0 ∈ leads ((rowsAll ns).map (shl s)) := List.mem_map.mpr ⟨l0, List.mem_filter.mpr ⟨List.mem_of_getLast? h0, by rw [hs0]; rfl⟩, rfl⟩
        rw [← hm]
        exact (leastN_spec (fun z => by rw [z] at h2; cases h2)).2 _ h2
      show spaces (smL (l0.drop m)) = false
      rw [(sm_keeps _).1, spaces_drop hle, hs0]
  obtain ⟨init, ls, last, _, wh, _, hf⟩ := whole_rows (ns := ns.map (nl s m)) (s := 0) (nl_seq sq fun q hq => (h q hq).2.1) (by rw [e0, len]; exact few) (by rw [e0]; exact nl_rows_sz h rs) heN
  rw [e0] at wh hf
  refine ⟨init, ls, last, wh, fun C D H us hp => ?_⟩
  have k := hf C D H us hp
  rw [nl_least hm h, dues_again (R1 := (rowsAll ns).map (shl s)) (e := e) (e' := endJ e ns) len ns 0 (fun q hq => ⟨(h q hq).1, (h q hq).2.1⟩) (by rw [List.length_map, Nat.zero_add]) rfl rfl (fun hl => by
    have hne : ns ≠ [] := fun z => by
      rw [z] at hl
      cases hl
    unfold endJ
    rw [decide_eq_true hne, hl, Bool.true_and, Bool.true_and, Bool.not_not])] at k
  exact k

/-! ### by hand -/
theorem mulOk_sp8 : MulOk " " 8 := mulOk_sp (n := 8) (by omega)
theorem NL.kept {D A B : Addr} {n : Int} {H H' : Hp} (d : Drw H D A B n) (k : Kept D A H H') : NL H H' := fun b o e ho => by
  obtain ⟨⟨as, bs, c, h1, h2, h3⟩, _⟩ := d
  exact k b o e (fun z => by rw [z, h1] at e; exact ho _ (Option.some.inj e).symm) (fun z => by rw [z, h2] at e; exact ho _ (Option.some.inj e).symm)
theorem NL.put {H : Hp} {P : Addr} {us vs : List V} (e : H P = some (.lst us)) : NL H (L2.upd H P (.lst vs)) := NL.upd e
theorem PcOk.nl {C D : Addr} {H H' : Hp} (s : NL H H') {v : V} : ∀ {p : Pc}, PcOk C D H v p → PcOk C D H' v p
  | .inl _, h => h
  | .inr (_, _, _), ⟨q, cls, dx, fs, h1, h2, h3, h4⟩ => ⟨q, cls, dx, fs, h1, h2, s _ _ h3 nofun, h4⟩
/-- the first piece is an example at line 5 -/
def Fst (C : Addr) (H : Hp) (us : List V) : Prop := us = [] ∨ ∃ (q dx : Addr) (fs : List (Str × V)), us[0]? = some (.ref q) ∧ H q = some (.ins C dx fs) ∧ fs.lookup ("line" : Str) = some (.int 5)
theorem Fst.nl {C : Addr} {H H' : Hp} {us : List V} (s : NL H H') (h : Fst C H us) : Fst C H' us := by
  rcases h with h | ⟨q, dx, fs, h1, h2, h3⟩
  · exact .inl h
  · exact .inr ⟨q, dx, fs, h1, s _ _ h2 nofun, h3⟩
theorem jl_app : ∀ a b : List (List Nat), joinL [] (a ++ b) = joinL [] a ++ joinL [] b
  | [], _ => rfl
  | x :: r, b => by rw [List.cons_append, joinL_flat, joinL_flat, jl_app r b, List.append_assoc]
structure HandI (CE CC D A B P : Addr) (H0 : Hp) (n : Int) (c u : Nat) (us : List V) (ps : List Pc) (tx : List Nat) (H : Hp) : Prop where
  ex : ∃ m, Drw H D A B m ∧ m ≤ n + c
  kp : Kept D A H0 H
  eP : H P = some (.lst us)
  eq : tx = joinL [] (ps.map pcT)
  pr : Paired (PcOk CE CC H) us ps
  fs : Fst CE H us
  ul : us.length ≤ u
  tl : tx.length ≤ 200 * u
theorem HandI.same {CE CC D A B P : Addr} {H0 : Hp} {n : Int} {c u : Nat} {us : List V} {ps : List Pc} {tx : List Nat} {H H' : Hp} (h : HandI CE CC D A B P H0 n c u us ps tx H) (s : Same H H') : HandI CE CC D A B P H0 n c u us ps tx H' := by
  obtain ⟨m, d, hm⟩ := h.ex
  exact ⟨⟨m, d.same s, hm⟩, h.kp.trans (.of s), s _ _ h.eP, h.eq, paired_imp (fun _ _ k => k.nl (.same s)) h.pr, h.fs.nl (.same s), h.ul, h.tl⟩
theorem HandI.drawn {CE CC D A B P : Addr} {H0 : Hp} {n m m' : Int} {c u : Nat} {us : List V} {ps : List Pc} {tx : List Nat} {H H' : Hp} (h : HandI CE CC D A B P H0 n c u us ps tx H) (d : Drw H D A B m) (d' : Drw H' D A B m') (hm : m' ≤ n + (c + 1)) (k : Kept D A H H') (n1 : P ≠ D) (n2 : P ≠ A) : HandI CE CC D A B P H0 n (c + 1) u us ps tx H' :=
  ⟨⟨m', d', by push_cast; exact hm⟩, h.kp.trans k, k _ _ h.eP n1 n2, h.eq, paired_imp (fun _ _ z => z.nl (.kept d k)) h.pr, h.fs.nl (.kept d k), h.ul, h.tl⟩
theorem HandI.add {CE CC D A B P : Addr} {H0 : Hp} {n : Int} {c u : Nat} {us : List V} {ps : List Pc} {tx : List Nat} {H : Hp} (h : HandI CE CC D A B P H0 n c u us ps tx H) (n0 : H0 P = none) (nD : P ≠ D ∧ P ≠ A) (nB : P ≠ B) {v : V} {p : Pc} (ok : PcOk CE CC H v p) (lp : (pcT p).length ≤ 200) (ft : Fst CE H [v] ∨ us ≠ []) :
    HandI CE CC D A B P H0 n c (u + 1) (us ++ [v]) (ps ++ [p]) (tx ++ pcT p) (upd H P (.lst (us ++ [v]))) := by
  obtain ⟨m, d, hm⟩ := h.ex
  have nl : NL H (upd H P (.lst (us ++ [v]))) := NL.put h.eP
  refine ⟨⟨m, d.upd nD.1 nD.2 nB, hm⟩, fun b o e n1 n2 => ?_, upd_same, ?_, Paired.snoc (paired_imp (fun _ _ k => k.nl nl) h.pr) (ok.nl nl), ?_, ?_, ?_⟩
  · rw [upd_ne (ne_of_none e n0)]
    exact h.kp b o e n1 n2
  · rw [List.map_append, jl_app, ← h.eq]
    rfl
  · by_cases hu : us = []
    · rcases ft with ft | ft
      · rw [hu]
        exact Fst.nl (by rw [hu] at nl; exact nl) ft
      · exact absurd hu ft
    · rcases h.fs with hf | ⟨q, dx, fs, h1, h2, h3⟩
      · exact absurd hf hu
      · exact .inr ⟨q, dx, fs, by rw [List.getElem?_append_left (Nat.pos_of_ne_zero fun z => hu (List.length_eq_zero_iff.mp z))]; exact h1, nl _ _ h2 nofun, h3⟩
  · rw [List.length_append]
    have := h.ul
    show us.length + 1 ≤ _
    omega
  · rw [List.length_append]
    have := h.tl
    omega
def WS : List (List (List Nat)) := [[], [[49]], [[49], [32, 32, 50]], [[97], [], [98]]]
def SX : List (List Nat) := [[120], [], [121]]
def SC1 : List (List Nat) := [[35, 32, 99]]
theorem ws_facts : ∀ ws ∈ WS, Rows10 ws ∧ (∀ l ∈ ws, l.length ≤ 100) ∧ ws.length ≤ 3 := by
  unfold Rows10
  decide +kernel
theorem ws_want : ∀ ws ∈ WS, wantS (Txt.join "\n" (ws.map mk)) = rowsT ws := fun ws h => by
  simp only [WS, List.mem_cons, List.not_mem_nil, or_false] at h
  rcases h with rfl | rfl | rfl | rfl
  · exact ext_tl (by decide +kernel)
  · exact ext_tl (by decide +kernel)
  · exact ext_tl (by decide +kernel)
  · exact ext_tl (by decide +kernel)
theorem ws_len : ∀ ws ∈ WS, (Txt.join "\n" (ws.map mk)).length ≤ 100 := fun ws h => by
  simp only [WS, List.mem_cons, List.not_mem_nil, or_false] at h
  rcases h with rfl | rfl | rfl | rfl <;> decide +kernel
theorem sx_fed : fedS "x\n\ny" = rowsT SX := ext_tl (by decide +kernel)
theorem sc1_fed : fedS "# c" = rowsT SC1 := ext_tl (by decide +kernel)
theorem hand_ex : ∀ ws ∈ WS, ∀ d : Nat, d = 0 ∨ d = 3 → sps d ++ (tl ">>> x\n" ++ (sps d ++ (tl "...\n" ++ (sps d ++ (tl "... y\n" ++ joinL [] (ws.map fun l => sps d ++ (l ++ [10]))))))) = pcT (.inr (d, SX, ws)) := fun ws h d hd => by
  simp only [WS, List.mem_cons, List.not_mem_nil, or_false] at h
  rcases hd with rfl | rfl <;> rcases h with rfl | rfl | rfl | rfl <;> decide +kernel
theorem hand_co : ∀ ws ∈ WS, ∀ d : Nat, d = 0 ∨ d = 3 → sps d ++ (tl ">>> # c\n" ++ joinL [] (ws.map fun l => sps d ++ (l ++ [10]))) = pcT (.inr (d, SC1, ws)) := fun ws h d hd => by
  simp only [WS, List.mem_cons, List.not_mem_nil, or_false] at h
  rcases hd with rfl | rfl <;> rcases h with rfl | rfl | rfl | rfl <;> decide +kernel
theorem hand_len : ∀ ws ∈ WS, ∀ d : Nat, d = 0 ∨ d = 3 → (pcT (.inr (d, SX, ws))).length ≤ 200 ∧ (pcT (.inr (d, SC1, ws))).length ≤ 200 ∧ (joinL [] (ws.map fun l => sps d ++ (l ++ [10]))).length ≤ 100 ∧ ((ws.map fun l => sps d ++ (l ++ [10])).map (·.length)).sum ≤ 100 := fun ws h d hd => by
  simp only [WS, List.mem_cons, List.not_mem_nil, or_false] at h
  rcases hd with rfl | rfl <;> rcases h with rfl | rfl | rfl | rfl <;> decide +kernel
theorem hand_pc {CE CC : Addr} {H : Hp} {q cls dx : Addr} {fs : List (Str × V)} {ss ws : List (List Nat)} {d : Nat} (hc : cls = CE ∨ cls = CC) (eq : H q = some (.ins cls dx fs)) (h1 : fs.lookup ("source" : Str) = some (.str (rowsT ss))) (h2 : fs.lookup ("want" : Str) = some (.str (rowsT ws))) (h3 : fs.lookup ("indent" : Str) = some (.int (d : Int))) (hs : ss = SX ∨ ss = SC1) (hw : ws ∈ WS) (hd : d ≤ 3) : PcOk CE CC H (.ref q) (.inr (d, ss, ws)) := by
  obtain ⟨w1, w2, w3⟩ := ws_facts ws hw
  have s1 : ss ≠ [] ∧ Rows10 ss ∧ (∀ l ∈ ss, l.length ≤ 100) ∧ ss.length ≤ 50 := by
    unfold Rows10
    rcases hs with rfl | rfl <;> decide +kernel
  exact ⟨q, cls, dx, fs, rfl, hc, eq, h1, h2, h3, s1.1, s1.2.1, w1, s1.2.2.1, w2, s1.2.2.2, by omega, by omega⟩

/-- a row of the pieces' text -/
def hrow (d : Nat) (l : List Nat) : List Nat := sps d ++ (l ++ [10])
section
variable {P : Program} {w : World} {K : PySem.W.Frag} {mg : Str → Option Value} {base : Heap}
def sp_law_by_hand (CE CC : Addr) : Sp := fun vs H Q _ => ∃ (D A B : Addr) (n : Int), vs = [.ref D] ∧ Drw H D A B n ∧ n < 700000 ∧ ∀ (us : List V) (ps : List Pc) (tx : List Nat) (p T : Addr) (H' : Hp), HandI CE CC D A B p H n 20 12 us ps tx H' → H' T = some (.tup [.ref p, .str (mk tx)]) → H p = none → Q (.ref T) H'
theorem ok_law_by_hand {f : Addr} {fd : FuncData} {dvs : List V} (F : Fn K "_law_by_hand" s_law_by_hand dvs f fd) {C_Example : Addr} (T_Example : Txt_Example K mg C_Example) {C_Comment : Addr} (T_Comment : Txt_Comment K mg C_Comment) (O_law_take : Own P w K mg base "_law_take" 2 ["draws", "size"] [] (sp_law_take)) (O_law_pick : Own P w K mg base "_law_pick" 3 ["draws", "things"] [] (sp_law_pick)) (O_Example_init_K_line_indent : OwnG P w K mg base "Example" C_Example 4 ["self", "source", "want", "error", "line", "indent", "options"] ["line", "indent"] 2 (gPut 1 [.non, .non]) (sp_Example_init C_Example)) (O_Comment_init_K_indent : OwnG P w K mg base "Comment" C_Comment 2 ["self", "source", "want", "line", "indent"] ["indent"] 2 (gPut 1 [.int 1]) (sp_Comment_init C_Comment)) (m_range : mg "range" = none) : FnOk P w K mg base CX0 6 f fd ["draws"] (sp_law_by_hand C_Example C_Comment) := by
  refine Fn.okN F sc_law_by_hand (fun vs H Q E h => ?_) (fun cdv A outer s H vs Q E hr h => ?_)
  · obtain ⟨_, _, _, _, rfl, _⟩ := h
    rfl
  · obtain ⟨D, A1, B, n, rfl, dr, hn, k⟩ := h
    refine ⟨_, (pss_cons (ps_par (i := 1) (j := 2) (by rfl) sc_law_by_hand.nd rfl rfl (by decide) rfl rfl (pa_cons (pe_lst pa_nil) (pa_cons pe_str pa_nil)) (by rfl))
      (pss_cons (ps_for PassesOwn.never rfl (pi_range1 rfl m_range (pa_cons (pe_own O_law_take (hr.mono (by decide)) (by rfl) (pa_cons (pv 0) (pa_cons pe_int pa_nil))) pa_nil)) (pg_name (i := 3) sc_law_by_hand.nd rfl (.inl rfl))
          (pss_cons (ps_par (i := 4) (j := 5) (by rfl) sc_law_by_hand.nd rfl rfl (by decide) rfl rfl (pa_cons (pe_own O_law_pick (hr.mono (by decide)) (by rfl) (pa_cons (pv 0) (pa_cons (pe_lst (pa_cons pe_int (pa_cons pe_int pa_nil))) pa_nil))) (pa_cons (pe_ix ix_list (pe_lst (pa_cons (pe_lst pa_nil) (pa_cons (pe_lst (pa_cons pe_str pa_nil)) (pa_cons (pe_lst (pa_cons pe_str (pa_cons pe_str pa_nil))) (pa_cons (pe_lst (pa_cons pe_str (pa_cons pe_str (pa_cons pe_str pa_nil)))) pa_nil))))) (pe_own O_law_take (hr.mono (by decide)) (by rfl) (pa_cons (pv 0) (pa_cons pe_int pa_nil))) (fun _ _ => rfl)) pa_nil)) (by rfl))
            (pss_cons (ps_asg (pe_tup (pa_cons (pe_op op_repS pe_str (pv 4)) (pa_cons (pe_m1 PySem.F.slot_str_join PySem.F.type_str_join mt_join pe_str (pv 5)) pa_nil))) (pg_tup rfl (pgs_cons (pg_name (i := 6) sc_law_by_hand.nd rfl (.inr rfl)) (pgs_cons (pg_name (i := 7) sc_law_by_hand.nd rfl (.inl rfl)) pgs_nil))))
            (pss_cons (ps_expr (pe_bm PySem.F.plainAttrs_list PySem.F.slot_list_append PySem.F.type_list_append mt_append (pv 1) (pa_cons (pe_ownG O_Example_init_K_line_indent (hr.mono (by decide)) (by rfl) (pa_cons pe_str (pa_cons (pv 7) pa_nil)) (pk_cons pe_int (pk_cons (pv 4) pk_nil))) pa_nil)))
            (pss_cons (ps_set (i := 2) sc_law_by_hand.nd rfl (.inl rfl) (pe_op op_add_str (pe_op op_add_str (pe_op op_add_str (pe_op op_add_str (pe_op op_add_str (pe_op op_add_str (pv 2) (pv 6)) pe_str) (pv 6)) pe_str) (pv 6)) pe_str))
            (pss_cons (ps_set (i := 2) sc_law_by_hand.nd rfl (.inl rfl) (pe_op op_add_str (pv 2) (pe_m1 PySem.F.slot_str_join PySem.F.type_str_join mt_join pe_str (pe_lc (own := [("each", 8)]) (g := gName 8) (tt := tYes) (by rfl) sc_law_by_hand.nd (pi_list (pv 5)) (blkOk_by (own := [("each", 8)]) (N := ["draws", "pieces", "text", "k", "depth", "wants", "ahead", "want", "each"]) (sc := defScope s_law_by_hand) (by decide +kernel)) (fun _ _ _ _ _ => (pg_name (i := 8) sc_law_by_hand.nd rfl (.inl rfl))) (fun _ _ _ _ _ => pts_nil) (fun _ _ _ _ _ => (pe_op op_add_str (pe_op op_add_str (pv 6) (pv 8)) pe_str))))))
            (pss_cut (ps_if (pt_cmpR op_eq (pe_own O_law_take (hr.mono (by decide)) (by rfl) (pa_cons (pv 0) (pa_cons pe_int pa_nil))) pe_int (nomark _))
                (pss_cons (ps_expr (pe_bm PySem.F.plainAttrs_list PySem.F.slot_list_append PySem.F.type_list_append mt_append (pv 1) (pa_cons (pe_ownG O_Comment_init_K_indent (hr.mono (by decide)) (by rfl) (pa_cons pe_str (pa_cons (pv 7) pa_nil)) (pk_cons (pv 4) pk_nil)) pa_nil)))
                  (pss_one (ps_set (i := 2) sc_law_by_hand.nd rfl (.inl rfl) (pe_op op_add_str (pe_op op_add_str (pe_op op_add_str (pv 2) (pv 6)) pe_str) (pe_m1 PySem.F.slot_str_join PySem.F.type_str_join mt_join pe_str (pe_lc (own := [("each", 8)]) (g := gName 8) (tt := tYes) (by rfl) sc_law_by_hand.nd (pi_list (pv 5)) (blkOk_by (own := [("each", 8)]) (N := ["draws", "pieces", "text", "k", "depth", "wants", "ahead", "want", "each"]) (sc := defScope s_law_by_hand) (by decide +kernel)) (fun _ _ _ _ _ => (pg_name (i := 8) sc_law_by_hand.nd rfl (.inl rfl))) (fun _ _ _ _ _ => pts_nil) (fun _ _ _ _ _ => (pe_op op_add_str (pe_op op_add_str (pv 6) (pv 8)) pe_str))))))))
                pss_nil)
            (pss_one (ps_if (pt_cmpR op_eq (pe_own O_law_take (hr.mono (by decide)) (by rfl) (pa_cons (pv 0) (pa_cons pe_int pa_nil))) pe_int (nomark _))
                (pss_cons (ps_expr (pe_bm PySem.F.plainAttrs_list PySem.F.slot_list_append PySem.F.type_list_append mt_append (pv 1) (pa_cons pe_str pa_nil)))
                  (pss_one (ps_set (i := 2) sc_law_by_hand.nd rfl (.inl rfl) (pe_op op_add_str (pv 2) pe_str))))
                pss_nil)))))))))
      (pss_one (ps_ret (pe_tup (pa_cons (pv 1) (pa_cons (pv 2) pa_nil))))))), ?_⟩
    have e00 : ("" : Str) = mk [] := ext_tl (by decide +kernel)
    refine ⟨by show 0 ≤ sizeLine; decide, fun P0 nP => ⟨_, _, rfl, ?_⟩⟩
    have PD := fresh_ne dr nP
    have PB : P0 ≠ B := by
      obtain ⟨_, _, ⟨_, eB⟩⟩ := dr.tracked
      exact (ne_of_none eB nP).symm
    have sP := same_new (o := .lst []) nP
    have HI0 : HandI C_Example C_Comment D A1 B P0 H n 0 0 [] [] [] (upd H P0 (.lst [])) := ⟨⟨n, dr.same sP, by omega⟩, .of sP, upd_same, rfl, .nil, .inl rfl, Nat.le_refl _, Nat.le_refl _⟩
    generalize upd H P0 (.lst []) = H1 at HI0 ⊢
    obtain ⟨m0, d0, hm0⟩ := HI0.ex
    refine ⟨.ref D, rfl, D, A1, B, m0, 5, rfl, d0, by omega, by decide, by decide, fun r H2 r0 r1 d2 k2 => ?_⟩
    have HI1 := HI0.drawn d0 d2 (by omega) k2 PD.1 PD.2
    refine ⟨r, rfl, by omega, by omega, for_range (lo := 0) (n := r.toNat) (fun i σ H3 => ∃ (us : List V) (ps : List Pc) (tx : List Nat) (v3 v4 v5 v6 v7 : Option V), σ = [some (.ref D), some (.ref P0), some (.str (mk tx)), v3, v4, v5, v6, v7, none] ∧ HandI C_Example C_Comment D A1 B P0 H n (1 + 4 * i) (3 * i) us ps tx H3) ⟨[], [], [], none, none, none, none, none, by rw [e00]; rfl, HI1⟩ ?_ ?_⟩
    · rintro i σ H3 hi ⟨us, ps, tx, v3, v4, v5, v6, v7, rfl, HI⟩
      obtain ⟨m, d3, hm⟩ := HI.ex
      -- the depth
      refine ⟨.ref D, rfl, by show 2 ≤ sizeLine; decide, fun L nL => ?_⟩
      generalize hH : upd H3 L _ = H3'
      obtain ⟨sL, eL⟩ := laid hH nL
      have LD := fresh_ne d3 nL
      refine ⟨D, A1, B, L, m, intsV [0, 3], rfl, d3.same sL, by omega, .inl eL, LD.1, LD.2, by decide, by decide, fun i0 v H4 hv d4 k4 => ?_⟩
      obtain ⟨d, hd, rfl⟩ := ints_of hv
      have hd03 : d = 0 ∨ d = 3 := by simpa using hd
      have hd3 : d ≤ 3 := by omega
      have HI4 := (HI.same sL).drawn (d3.same sL) d4 (by push_cast at hm ⊢; omega) k4 PD.1 PD.2
      -- the wants
      refine ⟨by show 0 ≤ sizeLine; decide, fun W0 n0 => ?_⟩
      generalize h0 : upd H4 W0 _ = G0
      obtain ⟨s0, g0⟩ := laid h0 n0
      refine ⟨by show 1 ≤ sizeLine; decide, fun W1 n1 => ?_⟩
      generalize h1 : upd G0 W1 _ = G1
      obtain ⟨s1, g1⟩ := laid h1 n1
      refine ⟨by show 2 ≤ sizeLine; decide, fun W2 n2 => ?_⟩
      generalize h2 : upd G1 W2 _ = G2
      obtain ⟨s2, g2⟩ := laid h2 n2
      refine ⟨by show 3 ≤ sizeLine; decide, fun W3 n3 => ?_⟩
      generalize h3 : upd G2 W3 _ = G3
      obtain ⟨s3, g3⟩ := laid h3 n3
      refine ⟨by show 4 ≤ sizeLine; decide, fun L2 n4 => ?_⟩
      generalize h4 : upd G3 L2 _ = G4
      obtain ⟨s4, g4⟩ := laid h4 n4
      have s04 : Same H4 G4 := s0.trans (s1.trans (s2.trans (s3.trans s4)))
      have W0D := fresh_ne d4 n0
      have W1D := fresh_ne (d4.same s0) n1
      have W2D := fresh_ne (d4.same (s0.trans s1)) n2
      have W3D := fresh_ne (d4.same (s0.trans (s1.trans s2))) n3
      have L2D := fresh_ne (d4.same (s0.trans (s1.trans (s2.trans s3)))) n4
      have f0 := s4 _ _ (s3 _ _ (s2 _ _ (s1 _ _ g0)))
      have f1 := s4 _ _ (s3 _ _ (s2 _ _ g1))
      have f2 := s4 _ _ (s3 _ _ g2)
      have f3 := s4 _ _ g3
      refine ⟨.ref D, rfl, D, A1, B, m + 1, 4, rfl, d4.same s04, by omega, by decide, by decide, fun r2 H5 q0 q1 d5 k5 => ?_⟩
      have HI5 := (HI4.same s04).drawn (d4.same s04) d5 (by push_cast at hm ⊢; omega) k5 PD.1 PD.2
      have wp0 := ne_of_none HI4.eP n0
      have wp1 := ne_of_none (s0 _ _ HI4.eP) n1
      have wp2 := ne_of_none (s1 _ _ (s0 _ _ HI4.eP)) n2
      have wp3 := ne_of_none (s2 _ _ (s1 _ _ (s0 _ _ HI4.eP))) n3
      obtain ⟨W, ws, j, hws, hj, er, wp, wD, eW⟩ : ∃ (W : Addr) (ws : List (List Nat)) (j : Nat), ws ∈ WS ∧ [V.ref W0, .ref W1, .ref W2, .ref W3][j]? = some (.ref W) ∧ r2 = (j : Int) ∧ P0 ≠ W ∧ (W ≠ D ∧ W ≠ A1) ∧ H5 W = some (rowsV ws) := by
        have g : r2 = 0 ∨ r2 = 1 ∨ r2 = 2 ∨ r2 = 3 := by omega
        rcases g with rfl | rfl | rfl | rfl
        · exact ⟨W0, [], 0, by simp [WS], rfl, rfl, wp0, W0D, k5 _ _ f0 W0D.1 W0D.2⟩
        · exact ⟨W1, [[49]], 1, by simp [WS], rfl, rfl, wp1, W1D, (k5 _ _ f1 W1D.1 W1D.2).trans (congrArg some (congrArg HO.lst (by rw [show ("1" : Str) = mk [49] from ext_tl (by decide +kernel)]; rfl)))⟩
        · exact ⟨W2, [[49], [32, 32, 50]], 2, by simp [WS], rfl, rfl, wp2, W2D, (k5 _ _ f2 W2D.1 W2D.2).trans (congrArg some (congrArg HO.lst (by rw [show ("1" : Str) = mk [49] from ext_tl (by decide +kernel), show ("  2" : Str) = mk [32, 32, 50] from ext_tl (by decide +kernel)]; rfl)))⟩
        · exact ⟨W3, [[97], [], [98]], 3, by simp [WS], rfl, rfl, wp3, W3D, (k5 _ _ f3 W3D.1 W3D.2).trans (congrArg some (congrArg HO.lst (by rw [show ("a" : Str) = mk [97] from ext_tl (by decide +kernel), show ("" : Str) = mk [] from ext_tl (by decide +kernel), show ("b" : Str) = mk [98] from ext_tl (by decide +kernel)]; rfl)))⟩
      subst er
      refine ⟨L2, _, (j : Int), .ref W, rfl, rfl, SqL.of (k5 _ _ g4 L2D.1 L2D.2), atI_nat hj, _, _, rfl, ?_⟩
      clear wp0 wp1 wp2 wp3 f0 f1 f2 f3 g0 g1 g2 g3 g4 s0 s1 s2 s3 s4 s04 n0 n1 n2 n3 n4 h0 h1 h2 h3 h4 W0D W1D W2D W3D L2D d4 k4 HI4 hj hH sL eL LD nL k5 hv
      have wf := ws_facts ws hws
      have ls : (sps d).length = d := List.length_replicate
      have hl4 := hand_len ws hws d hd03
      -- ahead, want
      refine ⟨.int (d : Int), rfl, " ", (d : Int), rfl, rfl, mulOk_sp (by omega), ⟨_, rfl⟩, .ref W, rfl, "\n", W, ws.map mk, rfl, rfl, .inl (SqL.of eW), ?_, by show 2 ≤ sizeLine; decide, fun T nT => ?_⟩
      · have l1 : ("\n" : Str).length = 1 := rfl
        have h2 := sum_le_of wf.2.1
        rw [l1, List.map_map, List.length_map]
        show (ws.map (·.length)).sum + _ ≤ _
        omega
      rw [mul_sps]
      have lw := ws_len ws hws
      have hwt := ws_want ws hws
      generalize Txt.join "\n" (ws.map mk) = want at lw hwt nT ⊢
      generalize h6 : upd H5 T _ = H6
      obtain ⟨s6, e6⟩ := laid h6 nT
      refine ⟨T, _, rfl, SqT.of e6, rfl, _, _, rfl, _, _, rfl, rfl, ?_⟩
      have HI6 := HI5.same s6
      have eW6 := s6 _ _ eW
      clear h6 e6 nT HI5 eW s6
      -- an example
      refine ⟨.ref P0, rfl, .inl ⟨rfl, _, SqL.of HI6.eP⟩, .str want, rfl, .int (d : Int), rfl, rfl, rfl, fun x dx nx ndx ne => ⟨x, dx, .non, "x\n\ny", want, SX, [], .non, 5, (d : Int), rfl, ⟨?_, ?_, ?_, ?_⟩, by omega, .inl rfl, upd_same, .inl rfl, fun H7 fs out e7 F => ⟨rfl, P0, us, .ref x, rfl, rfl, ?_, ?_, ?_⟩⟩⟩
      · rw [sx_fed]
        exact (join_ten SX).symm
      · unfold Rows10
        decide +kernel
      · decide +kernel
      · rw [sx_fed]
        decide +kernel
      · have := HI6.eP
        refine out _ _ ?_ (ne_of_none this nx)
        rw [upd_ne (ne_of_none this nx), upd_ne (ne_of_none this ndx)]
        exact this
      · have := HI6.ul
        exact Nat.lt_of_le_of_lt (show us.length ≤ 100 by omega) (by decide)
      have s7 : Same H6 H7 := fun b o e => by
        refine out _ _ ?_ (ne_of_none e nx)
        rw [upd_ne (ne_of_none e nx), upd_ne (ne_of_none e ndx)]
        exact e
      have HI7 := HI6.same s7
      have eW7 := s7 _ _ eW6
      have pc : PcOk C_Example C_Comment H7 (.ref x) (.inr (d, SX, ws)) := hand_pc (.inl rfl) e7 (by rw [← sx_fed]; exact F.source) (by rw [← hwt]; exact F.want) F.indent (.inl rfl) hws hd3
      have HIc := HI7.add nP PD PB pc hl4.1 (.inl (.inr ⟨x, dx, fs, rfl, e7, F.line⟩))
      have eWc : (upd H7 P0 (.lst (us ++ [.ref x]))) W = some (rowsV ws) := by
        rw [upd_ne wp.symm]
        exact eW7
      have une : us ++ [V.ref x] ≠ [] := by simp
      have al : ∀ a b : Str, (a ++ b).length = a.length + b.length := fun a b => by rw [len_tl, tl_append, List.length_append, ← len_tl, ← len_tl]
      have c1 : (">>> x\n" : Str).length = 6 := rfl
      have c2 : ("...\n" : Str).length = 4 := rfl
      have c3 : ("... y\n" : Str).length = 6 := rfl
      have c4 : (">>> # c\n" : Str).length = 8 := rfl
      have ltx := HI.tl
      generalize upd H7 P0 (.lst (us ++ [.ref x])) = Hc at HIc eWc ⊢
      generalize us ++ [V.ref x] = us1 at HIc une
      generalize ps ++ [Sum.inr (d, SX, ws)] = ps1 at HIc
      clear HI HI6 HI7 s7 e7 F out nx ndx ne pc eW7 eW6 d3
      have i4 : i < 4 := by omega
      refine ⟨.str (mk tx), rfl, .str (mk (sps d)), rfl, _, _, rfl, rfl, ?_, _, _, rfl, rfl, ?_, .str (mk (sps d)), rfl, _, _, rfl, rfl, ?_, _, _, rfl, rfl, ?_, .str (mk (sps d)), rfl, _, _, rfl, rfl, ?_, _, _, rfl, rfl, ?_, ?_⟩
      · rw [mk_len, mk_len, ls]
        exact line_of (by omega)
      · rw [al, mk_len, mk_len, ls, c1]
        exact line_of (by omega)
      · rw [al, al, mk_len, mk_len, ls, c1]
        exact line_of (by omega)
      · rw [al, al, al, mk_len, mk_len, ls, c1, c2]
        exact line_of (by omega)
      · rw [al, al, al, al, mk_len, mk_len, ls, c1, c2]
        exact line_of (by omega)
      · rw [al, al, al, al, al, mk_len, mk_len, ls, c1, c2, c3]
        exact line_of (by omega)
      have lt0 : (mk tx ++ mk (sps d) ++ (">>> x\n" : Str) ++ mk (sps d) ++ "...\n" ++ mk (sps d) ++ "... y\n").length ≤ 5000 := by
        rw [al, al, al, al, al, al, mk_len, mk_len, ls, c1, c2, c3]
        omega
      have et : mk tx ++ mk (sps d) ++ (">>> x\n" : Str) ++ mk (sps d) ++ "...\n" ++ mk (sps d) ++ "... y\n" ++ mk (joinL [] (ws.map fun l => sps d ++ (l ++ [10]))) = mk (tx ++ pcT (.inr (d, SX, ws))) := ext_tl (by
        rw [← hand_ex ws hws d hd03]
        simp only [tl_append, tl_mk', List.append_assoc])
      generalize mk tx ++ mk (sps d) ++ (">>> x\n" : Str) ++ mk (sps d) ++ "...\n" ++ mk (sps d) ++ "... y\n" = t0 at lt0 et ⊢
      refine ⟨.str t0, rfl, ⟨_, rfl⟩, .ref W, rfl, W, rfl, ⟨_, SqL.of eWc⟩, fun C nC => ?_⟩
      have sC := same_new (o := .lst []) nC
      refine lc_list (K := K) (a := W) (xs := (ws.map mk).map V.str) (fun j H8 => H8 C = some (rowsV ((ws.take j).map (hrow d))) ∧ Same Hc H8) ⟨upd_same, sC⟩ (fun j H8 _ h => SqL.of (h.2 _ _ eWc)) ?_ ?_
      · rintro j v H8 hv ⟨eC, s8⟩
        obtain ⟨z, rfl, hz⟩ := str_at hv
        rw [List.getElem?_map] at hz
        obtain ⟨l, hl, rfl⟩ := Option.map_eq_some_iff.mp hz
        have ll := (ws_facts ws hws).2.1 l (List.mem_of_getElem? hl)
        have hj : j < ws.length := (List.getElem?_eq_some_iff.mp hl).1
        have l3 := (ws_facts ws hws).2.2
        have l1 : ("\n" : Str).length = 1 := rfl
        have ls : (sps d).length = d := List.length_replicate
        have e1 : mk (sps d) ++ mk l ++ ("\n" : Str) = mk (hrow d l) := ext_tl (by
          rw [tl_append, tl_append, List.append_assoc]
          rfl)
        refine ⟨rfl, ?_⟩
        unfold tYes
        show ite (true = true) _ _
        rw [if_pos rfl]
        refine ⟨.str (mk (sps d)), rfl, .str (mk l), rfl, _, _, rfl, rfl, ?_, _, _, rfl, rfl, ?_, _, eC, ?_, ?_, fun b o e => ?_⟩
        · rw [mk_len, mk_len, ls]
          exact line_of (by omega)
        · rw [len_tl, tl_append, List.length_append, l1]
          show (sps d).length + l.length + 1 ≤ _
          rw [ls]
          exact line_of (by omega)
        · rw [rowsV_len, List.length_map, List.length_take]
          exact Nat.lt_of_le_of_lt (show min j _ ≤ 10 by omega) (by decide)
        · rw [e1, upd_same, List.take_add_one, hl, List.map_append]
          exact congrArg some (rowsV_snoc _ (mk (hrow d l)))
        · rw [upd_ne (ne_of_none e nC)]
          exact s8 b o e
      rintro H8 ⟨eC, s8⟩
      rw [rowsV_len, List.take_length] at eC
      have hl4 := hand_len ws hws d hd03
      have e00 : ("" : Str) = mk [] := ext_tl (by decide +kernel)
      have el0 : ("" : Str).length = 0 := by decide +kernel
      have HI8 := HIc.same s8
      have eW8 := s8 _ _ eWc
      refine ⟨"", C, (ws.map (hrow d)).map mk, rfl, rfl, .inl (SqL.of eC), ?_, ?_⟩
      · rw [el0, Nat.mul_zero, List.map_map]
        show ((ws.map (hrow d)).map (·.length)).sum + 0 ≤ _
        exact line_of (by have := hl4.2.2.2; show ((ws.map fun l => sps d ++ (l ++ [10])).map (·.length)).sum + 0 ≤ _; omega)
      rw [show Txt.join "" ((ws.map (hrow d)).map mk) = mk (joinL [] (ws.map fun l => sps d ++ (l ++ [10]))) by rw [e00, join_mk]; rfl]
      refine ⟨_, _, rfl, rfl, ?_, ?_⟩
      · have := hl4.2.2.1
        rw [mk_len]
        exact line_of (by omega)
      rw [et]
      clear et lt0 nC eC HIc eWc
      generalize tx ++ pcT (.inr (d, SX, ws)) = tx1 at HI8 ⊢
      obtain ⟨m1, d8, hm1⟩ := HI8.ex
      clear hl4
      refine ⟨fun σ H9 => ∃ (us2 : List V) (ps2 : List Pc) (tx2 : List Nat) (v3 : Option V), σ = [some (.ref D), some (.ref P0), some (.str (mk tx2)), v3, some (.int (d : Int)), some (.ref W), some (.str (mk (sps d))), some (.str want), none] ∧ us2 ≠ [] ∧ HandI C_Example C_Comment D A1 B P0 H n (1 + 4 * i + 1 + 1 + 1) (3 * i + 1 + 1) us2 ps2 tx2 H9, ?_, ?_⟩
      · refine ⟨.ref D, rfl, D, A1, B, m1, 2, rfl, d8, by omega, by decide, by decide, fun r3 H9 _ _ d9 k9 => ⟨rfl, _, rfl, ?_⟩⟩
        have HI9 := HI8.drawn d8 d9 (by push_cast at hm1 ⊢; omega) k9 PD.1 PD.2
        have eW9 := k9 _ _ eW8 wD.1 wD.2
        refine ite2 (fun _ => ?_) (fun _ => ⟨us1, ps1, tx1, _, rfl, une, ⟨HI9.ex, HI9.kp, HI9.eP, HI9.eq, HI9.pr, HI9.fs, by have := HI9.ul; omega, by have := HI9.tl; omega⟩⟩)
        refine ⟨.ref P0, rfl, .inl ⟨rfl, _, SqL.of HI9.eP⟩, .str want, rfl, .int (d : Int), rfl, rfl, rfl, fun x dx nx ndx ne => ⟨x, dx, "# c", want, 1, (d : Int), rfl, by decide +kernel, by omega, upd_same, fun H7 fs out e7 F => ⟨rfl, P0, us1, .ref x, rfl, rfl, ?_, ?_, ?_⟩⟩⟩
        · have := HI9.eP
          refine out _ _ ?_ (ne_of_none this nx)
          rw [upd_ne (ne_of_none this nx), upd_ne (ne_of_none this ndx)]
          exact this
        · have := HI9.ul
          exact Nat.lt_of_le_of_lt (show us1.length ≤ 100 by omega) (by decide)
        have s7 : Same H9 H7 := fun b o e => by
          refine out _ _ ?_ (ne_of_none e nx)
          rw [upd_ne (ne_of_none e nx), upd_ne (ne_of_none e ndx)]
          exact e
        have HI7 := HI9.same s7
        have eW7 := s7 _ _ eW9
        have pc : PcOk C_Example C_Comment H7 (.ref x) (.inr (d, SC1, ws)) := hand_pc (.inr rfl) e7 (by rw [← sc1_fed]; exact F.source) (by rw [← hwt]; exact F.want) F.indent (.inr rfl) hws hd3
        have HIc := HI7.add nP PD PB pc (hand_len ws hws d hd03).2.1 (.inr une)
        have eWc : (upd H7 P0 (.lst (us1 ++ [.ref x]))) W = some (rowsV ws) := by
          rw [upd_ne wp.symm]
          exact eW7
        have une2 : us1 ++ [V.ref x] ≠ [] := by simp
        have ltx1 := HI9.tl
        generalize upd H7 P0 (.lst (us1 ++ [.ref x])) = Hc at HIc eWc ⊢
        generalize us1 ++ [V.ref x] = us2 at HIc une2
        generalize ps1 ++ [Sum.inr (d, SC1, ws)] = ps2 at HIc
        refine ⟨.str (mk tx1), rfl, .str (mk (sps d)), rfl, _, _, rfl, rfl, ?_, _, _, rfl, rfl, ?_, ⟨_, rfl⟩, .ref W, rfl, W, rfl, ⟨_, SqL.of eWc⟩, fun C nC => ?_⟩
        · rw [mk_len, mk_len, ls]
          exact line_of (by omega)
        · rw [al, mk_len, mk_len, ls, c4]
          exact line_of (by omega)
        clear eW8 s8 HI8 d8 k9 d9 HI9 eW9 HI7 eW7 s7 pc
        have sC := same_new (o := .lst []) nC
        refine lc_list (K := K) (a := W) (xs := (ws.map mk).map V.str) (fun j H8 => H8 C = some (rowsV ((ws.take j).map (hrow d))) ∧ Same Hc H8) ⟨upd_same, sC⟩ (fun j H8 _ h => SqL.of (h.2 _ _ eWc)) ?_ ?_
        · rintro j v H8 hv ⟨eC, s8⟩
          obtain ⟨z, rfl, hz⟩ := str_at hv
          rw [List.getElem?_map] at hz
          obtain ⟨l, hl, rfl⟩ := Option.map_eq_some_iff.mp hz
          have ll := (ws_facts ws hws).2.1 l (List.mem_of_getElem? hl)
          have hj : j < ws.length := (List.getElem?_eq_some_iff.mp hl).1
          have l3 := (ws_facts ws hws).2.2
          have l1 : ("\n" : Str).length = 1 := rfl
          have ls : (sps d).length = d := List.length_replicate
          have e1 : mk (sps d) ++ mk l ++ ("\n" : Str) = mk (hrow d l) := ext_tl (by
            rw [tl_append, tl_append, List.append_assoc]
            rfl)
          refine ⟨rfl, ?_⟩
          unfold tYes
          show ite (true = true) _ _
          rw [if_pos rfl]
          refine ⟨.str (mk (sps d)), rfl, .str (mk l), rfl, _, _, rfl, rfl, ?_, _, _, rfl, rfl, ?_, _, eC, ?_, ?_, fun b o e => ?_⟩
          · rw [mk_len, mk_len, ls]
            exact line_of (by omega)
          · rw [len_tl, tl_append, List.length_append, l1]
            show (sps d).length + l.length + 1 ≤ _
            rw [ls]
            exact line_of (by omega)
          · rw [rowsV_len, List.length_map, List.length_take]
            exact Nat.lt_of_le_of_lt (show min j _ ≤ 10 by omega) (by decide)
          · rw [e1, upd_same, List.take_add_one, hl, List.map_append]
            exact congrArg some (rowsV_snoc _ (mk (hrow d l)))
          · rw [upd_ne (ne_of_none e nC)]
            exact s8 b o e
        rintro H8 ⟨eC, s8⟩
        rw [rowsV_len, List.take_length] at eC
        have hl4 := hand_len ws hws d hd03
        have e00 : ("" : Str) = mk [] := ext_tl (by decide +kernel)
        have el0 : ("" : Str).length = 0 := by decide +kernel
        have HI8 := HIc.same s8
        have eW8 := s8 _ _ eWc
        refine ⟨"", C, (ws.map (hrow d)).map mk, rfl, rfl, .inl (SqL.of eC), ?_, ?_⟩
        · rw [el0, Nat.mul_zero, List.map_map]
          show ((ws.map (hrow d)).map (·.length)).sum + 0 ≤ _
          exact line_of (by have := hl4.2.2.2; show ((ws.map fun l => sps d ++ (l ++ [10])).map (·.length)).sum + 0 ≤ _; omega)
        rw [show Txt.join "" ((ws.map (hrow d)).map mk) = mk (joinL [] (ws.map fun l => sps d ++ (l ++ [10]))) by rw [e00, join_mk]; rfl]
        refine ⟨_, _, rfl, rfl, ?_, us2, ps2, _, some (.int (0 + (i : Int))), ?_, une2, HI8⟩
        · have := hl4.2.2.1
          rw [al, al, mk_len, mk_len, mk_len, ls, c4]
          exact line_of (by omega)
        · have et : mk tx1 ++ mk (sps d) ++ (">>> # c\n" : Str) ++ mk (joinL [] (ws.map fun l => sps d ++ (l ++ [10]))) = mk (tx1 ++ pcT (.inr (d, SC1, ws))) := ext_tl (by
            rw [← hand_co ws hws d hd03]
            simp only [tl_append, tl_mk', List.append_assoc])
          rw [← et]
          rfl
      rintro σ H9 ⟨us2, ps2, tx2, v3, rfl, une2, HI9⟩
      obtain ⟨m2, d9, hm2⟩ := HI9.ex
      refine ⟨.ref D, rfl, D, A1, B, m2, 2, rfl, d9, by push_cast at hm2; omega, by decide, by decide, fun r3 H10 _ _ d10 k10 => ⟨rfl, _, rfl, ?_⟩⟩
      have HI10 := HI9.drawn d9 d10 (by push_cast at hm2 ⊢; omega) k10 PD.1 PD.2
      refine ite2 (fun _ => ?_) (fun _ => ⟨us2, ps2, tx2, _, _, _, _, _, rfl, ⟨by obtain ⟨m, h1, h2⟩ := HI10.ex; exact ⟨m, h1, by push_cast at h2 ⊢; omega⟩, HI10.kp, HI10.eP, HI10.eq, HI10.pr, HI10.fs, by have := HI10.ul; omega, by have := HI10.tl; omega⟩⟩)
      have lul := HI10.ul
      have ltl := HI10.tl
      refine ⟨.ref P0, rfl, .inl ⟨rfl, _, SqL.of HI10.eP⟩, P0, us2, _, rfl, rfl, HI10.eP, Nat.lt_of_le_of_lt (show us2.length ≤ 100 by omega) (by decide), .str (mk tx2), rfl, _, _, rfl, rfl, ?_, us2 ++ [.str (mk [10, 32, 32, 97, 10])], ps2 ++ [.inl [10, 32, 32, 97, 10]], tx2 ++ [10, 32, 32, 97, 10], v3, some (.int (d : Int)), some (.ref W), some (.str (mk (sps d))), some (.str want), ?_, ?_⟩
      · rw [mk_len]
        exact line_of (by show tx2.length + 5 ≤ _; omega)
      · have et : mk tx2 ++ ("\n  a\n" : Str) = mk (tx2 ++ [10, 32, 32, 97, 10]) := ext_tl (by
          rw [tl_append]
          congr 1)
        rw [← et]
        rfl
      · have ea : ("\n  a\n" : Str) = mk [10, 32, 32, 97, 10] := ext_tl (by decide +kernel)
        rw [ea]
        have HI11 := HI10.add nP PD PB (v := .str (mk [10, 32, 32, 97, 10])) (p := .inl [10, 32, 32, 97, 10]) ⟨rfl, by decide⟩ (by decide) (.inr une2)
        exact ⟨by obtain ⟨m, h1, h2⟩ := HI11.ex; exact ⟨m, h1, by push_cast at h2 ⊢; omega⟩, HI11.kp, HI11.eP, HI11.eq, HI11.pr, HI11.fs, by have := HI11.ul; omega, by have := HI11.tl; show (tx2 ++ pcT (.inl [10, 32, 32, 97, 10])).length ≤ _; omega⟩
    · rintro σ H3 ⟨us, ps, tx, v3, v4, v5, v6, v7, rfl, HI⟩
      refine ⟨.ref P0, rfl, .str (mk tx), rfl, by show 2 ≤ sizeLine; decide, fun T nT => ?_⟩
      have sT := same_new (o := .tup [.ref P0, .str (mk tx)]) nT
      have HI2 := HI.same sT
      exact k us ps tx P0 T _ ⟨by obtain ⟨m, h1, h2⟩ := HI2.ex; exact ⟨m, h1, by push_cast at h2 ⊢; omega⟩, HI2.kp, HI2.eP, HI2.eq, HI2.pr, HI2.fs, by have := HI2.ul; omega, by have := HI2.tl; omega⟩ upd_same nP
end

/-! ### the law of pieces joined -/
theorem Sam0.both {H : Hp} {a b c : V} (h1 : Sam0 H a c) (h2 : Sam0 H b c) : Sam0 H a b := by
  rcases h1 with ⟨s1, rfl⟩ | ⟨p, q, rfl, rfl, e1, e2⟩
  · rcases h2 with ⟨s2, rfl⟩ | ⟨p, q, rfl, rfl, e1, e2⟩
    · exact .inl ⟨s1, rfl⟩
    · rcases s1 with h | ⟨_, h⟩ | ⟨_, h⟩ <;> cases h
  · rcases h2 with ⟨s2, h⟩ | ⟨p2, q2, rfl, h, e3, e4⟩
    · rw [← h] at s2
      rcases s2 with h | ⟨_, h⟩ | ⟨_, h⟩ <;> cases h
    · exact .inr ⟨p, p2, rfl, rfl, e1, e3⟩
theorem paired_both {α β : Type} {F : α → β → Prop} {G : α → α → Prop} (h : ∀ a b c, F a c → F b c → G a b) : ∀ {xs ys : List α} {zs : List β}, Paired F xs zs → Paired F ys zs → Paired G xs ys
  | _, _, _, .nil, .nil => .nil
  | _, _, _, .cons a r, .cons b t => .cons (h _ _ _ a b) (paired_both h r t)
theorem Sam1.both {H : Hp} {a b c : V} (h1 : Sam1 H a c) (h2 : Sam1 H b c) : Sam1 H a b := by
  obtain ⟨p, q, xs, ys, rfl, rfl, e1, e2, h, l⟩ := h1
  obtain ⟨p2, q2, xs2, ys2, rfl, hq, e3, e4, k, l2⟩ := h2
  cases hq
  rw [e2] at e4
  cases e4
  exact ⟨p, p2, xs, xs2, rfl, rfl, e1, e3, paired_both (F := Sam0 H) (G := Sam0 H) (fun _ _ _ h1 h2 => Sam0.both h1 h2) h k, l⟩
theorem last_is {K : PySem.W.Frag} {mg : Str → Option Value} {C D : Addr} (T_Example : Txt_Example K mg C) (T_Comment : Txt_Comment K mg D) (z_Es : PySem.W.subIn K (.ref C) (.type "str") = some false) (z_Cs : PySem.W.subIn K (.ref D) (.type "str") = some false) {H : Hp} {R : List (List Nat)} {m s : Nat} {e : Bool} :
    ∀ {ns : List NP} {o : Nat} {us : List V}, Paired (Fit C D H) us (duesB R m s e o ns) → LastIs K H us (decide (ns ≠ []) && !lastTxt ns)
  | [], _, [], _ => .inl ⟨rfl, rfl⟩
  | [q], o, [v], h => by
    cases h with
    | cons f _ =>
      refine .inr ⟨v, rfl, ?_⟩
      cases q with
      | txt ts => exact .inl ⟨_, f, rfl⟩
      | ex c d ss ws =>
        cases c with
        | true =>
          obtain ⟨q, dx, fs, rfl, eq, _⟩ := f
          exact .inr ⟨.ref D, .base (.ins eq T_Comment.cl T_Comment.ha T_Comment.hn T_Comment.ht T_Comment.hm), kit_tyno (by decide +kernel) z_Cs, rfl⟩
        | false =>
          obtain ⟨q, dx, fs, rfl, eq, _⟩ := f
          exact .inr ⟨.ref C, .base (.ins eq T_Example.cl T_Example.ha T_Example.hn T_Example.ht T_Example.hm), kit_tyno (by decide +kernel) z_Es, rfl⟩
  | q :: q2 :: r, o, v :: v2 :: us, h => by
    cases h with
    | cons _ h2 =>
      have ih := last_is T_Example T_Comment z_Es z_Cs (ns := q2 :: r) (us := v2 :: us) h2
      rw [lastTxt_cons q (by simp)]
      rcases ih with ⟨z, _⟩ | ⟨v', hv, hc⟩
      · cases z
      · exact .inr ⟨v', hv, hc⟩
theorem DueAt.kept {z D A : Addr} {H H' : Hp} {t : Addr} (hD : ∃ xs, H D = some (.lst xs)) (hA : ∃ xs, H A = some (.lst xs)) (k : Kept D A H H') {d : Due} (h : DueAt z [D, A] H t d) : DueAt z [D, A] H' t d := by
  obtain ⟨xD, eD⟩ := hD
  obtain ⟨xA, eA⟩ := hA
  have nt : ∀ {t : Addr} {xs : List V}, H t = some (.tup xs) → H' t = some (.tup xs) := fun {t xs} e => k _ _ e (fun z => by rw [z, eD] at e; cases e) (fun z => by rw [z, eA] at e; cases e)
  cases d with
  | txt x => exact nt h
  | com src wt n i => exact nt h
  | exa src wt n i er br =>
    obtain ⟨L, h1, h2, h3, h4⟩ := h
    exact ⟨L, nt h1, k _ _ h2 (fun z => h4 (by simp [z])) (fun z => h4 (by simp [z])), h3, h4⟩
theorem DuesAt.kept {z D A : Addr} {H H' : Hp} (hD : ∃ xs, H D = some (.lst xs)) (hA : ∃ xs, H A = some (.lst xs)) (k : Kept D A H H') : ∀ {ts : List Addr} {ds : List Due}, DuesAt z [D, A] H ts ds → DuesAt z [D, A] H' ts ds
  | [], [], _ => trivial
  | _ :: _, _ :: _, h => ⟨h.1.kept hD hA k, DuesAt.kept hD hA k h.2⟩
  | [], _ :: _, h => h.elim
  | _ :: _, [], h => h.elim
theorem cut_eight (x : Str) (h : x.length ≤ 20000) : (cutS x none (some (8 : Int))).length ≤ 20000 := by
  rw [len_tl]
  show ((tl x).drop _ |>.take _).length ≤ _
  rw [List.length_take, List.length_drop, ← len_tl]
  omega
section
variable {P : Program} {w : World} {K : PySem.W.Frag} {mg : Str → Option Value} {base : Heap}
def sp_law (K : PySem.W.Frag) : Sp := fun vs H Q _ => ∃ (a : Addr) (ns : List Int), vs = [.ref a] ∧ SqL K H a (ns.map V.int) ∧ ns.length ≤ 63 ∧ ∀ H', Q (.bl true) H'
theorem ok_law {f : Addr} {fd : FuncData} {dvs : List V} (F : Fn K "law" s_law dvs f fd) {C_Example : Addr} (T_Example : Txt_Example K mg C_Example) {C_Comment : Addr} (T_Comment : Txt_Comment K mg C_Comment) (O_law_draws : Own P w K mg base "_law_draws" 1 ["script"] [] (sp_law_draws K)) (O_law_written : Own P w K mg base "_law_written" 4 ["draws", "parts", "shift"] [] (sp_law_written)) (O_law_drawn_parts : Own P w K mg base "_law_drawn_parts" 6 ["draws", "most"] [] (sp_law_drawn_parts)) (O_law_pick : Own P w K mg base "_law_pick" 3 ["draws", "things"] [] (sp_law_pick)) (O_law_take : Own P w K mg base "_law_take" 2 ["draws", "size"] [] (sp_law_take)) (O_parsed : Own P w K mg base "parsed" 7 ["text"] [] (sp_parsed C_Example C_Comment)) (O_joined : Own P w K mg base "joined" 4 ["pieces"] [] (sp_joined C_Example C_Comment)) (O_law_smoothed : Own P w K mg base "_law_smoothed" 1 ["text", "pieces"] [] (sp_law_smoothed K)) (O_levelled : Own P w K mg base "levelled" 2 ["text"] [] (sp_levelled)) (O_law_same : Own P w K mg base "_law_same" 3 ["found", "due"] [] (sp_law_same)) (O_law_shown : Own P w K mg base "_law_shown" 1 ["piece"] [] (sp_law_shown C_Example C_Comment)) (O_law_by_hand : Own P w K mg base "_law_by_hand" 6 ["draws"] [] (sp_law_by_hand C_Example C_Comment)) (m_len : mg "len" = none) (m_range : mg "range" = none) (m_tuple : mg "tuple" = none) (z_Es : PySem.W.subIn K (.ref C_Example) (.type "str") = some false) (z_Cs : PySem.W.subIn K (.ref C_Comment) (.type "str") = some false) : FnOk P w K mg base CX0 8 f fd ["script"] (sp_law K) := by
  refine Fn.okN F sc_law (fun vs H Q E h => ?_) (fun cdv A outer s H vs Q E hr h => ?_)
  · obtain ⟨_, _, rfl, _⟩ := h
    rfl
  · obtain ⟨a, ns, rfl, hS, hlen, k⟩ := h
    refine ⟨_, (pss_cons (ps_set (i := 1) sc_law.nd rfl (.inl rfl) (pe_own O_law_draws (hr.mono (by decide)) (by rfl) (pa_cons (pv 0) pa_nil)))
      (pss_cons (ps_for PassesOwn.never rfl (pi_range1 rfl m_range (pa_cons pe_int pa_nil)) (pg_name (i := 2) sc_law.nd rfl (.inl rfl))
          (pss_cons (ps_asg (pe_own O_law_written (hr.mono (by decide)) (by rfl) (pa_cons (pv 1) (pa_cons (pe_own O_law_drawn_parts (hr.mono (by decide)) (by rfl) (pa_cons (pv 1) (pa_cons pe_int pa_nil))) (pa_cons (pe_own O_law_pick (hr.mono (by decide)) (by rfl) (pa_cons (pv 1) (pa_cons (pe_lst (pa_cons pe_int (pa_cons pe_int (pa_cons pe_int pa_nil)))) pa_nil))) pa_nil)))) (pg_tup rfl (pgs_cons (pg_name (i := 3) sc_law.nd rfl (.inl rfl)) (pgs_cons (pg_name (i := 4) sc_law.nd rfl (.inl rfl)) pgs_nil))))
            (pss_cut (ps_if (pt_cmpR op_eq (pe_own O_law_take (hr.mono (by decide)) (by rfl) (pa_cons (pv 1) (pa_cons pe_int pa_nil))) pe_int (nomark _))
                (pss_one (ps_set (i := 3) sc_law.nd rfl (.inl rfl) (pe_ifExp (pt_cmpR op_eq (pe_m1 PySem.F.slot_str_strip PySem.F.type_str_strip mt_stripChars (pe_slice sl_str (pv 3) po_none (po_some pe_int)) pe_str) pe_str (nomark _)) (pe_replM (pv 3) mulOk_sp8 (by decide) (by decide +kernel) (by decide +kernel)) (pv 3))))
                pss_nil)
            (pss_cons (ps_set (i := 5) sc_law.nd rfl (.inl rfl) (pe_own O_parsed (hr.mono (by decide)) (by rfl) (pa_cons (pv 3) pa_nil)))
            (pss_cons (ps_set (i := 6) sc_law.nd rfl (.inl rfl) (pe_own O_joined (hr.mono (by decide)) (by rfl) (pa_cons (pv 5) pa_nil)))
            (pss_cons (ps_if (PW.pt (pw_or (pt_cmpR op_ne (pv 6) (pe_own O_law_smoothed (hr.mono (by decide)) (by rfl) (pa_cons (pe_own O_levelled (hr.mono (by decide)) (by rfl) (pa_cons (pv 3) pa_nil)) (pa_cons (pv 5) pa_nil))) (nomark _)) (pw_or1 (pt_cmpR op_ne (pe_own O_joined (hr.mono (by decide)) (by rfl) (pa_cons (pe_callTy call_tuple_of (by rfl) m_tuple (by decide +kernel) (pa_cons (pv 5) pa_nil)) pa_nil)) (pv 6) (nomark _)))))
                (pss_one (ps_ret pe_bl))
                pss_nil)
            (pss_cons (ps_if (pt_not (pt_val (pe_own O_law_same (hr.mono (by decide)) (by rfl) (pa_cons (pe_lc (own := [("piece", 7)]) (g := gName 7) (tt := tYes) (by rfl) sc_law.nd (pi_list (pe_own O_parsed (hr.mono (by decide)) (by rfl) (pa_cons (pv 6) pa_nil))) (blkOk_by (own := [("piece", 7)]) (N := ["script", "draws", "turn", "text", "due", "pieces", "found", "piece"]) (sc := defScope s_law) (by decide +kernel)) (fun _ _ _ _ _ => (pg_name (i := 7) sc_law.nd rfl (.inl rfl))) (fun _ _ _ _ _ => pts_nil) (fun _ _ _ _ _ => (pe_own O_law_shown (hr.mono (by decide)) (by rfl) (pa_cons (pv 7) pa_nil)))) (pa_cons (pe_lc (own := [("piece", 7)]) (g := gName 7) (tt := tYes) (by rfl) sc_law.nd (pi_list (pv 5)) (blkOk_by (own := [("piece", 7)]) (N := ["script", "draws", "turn", "text", "due", "pieces", "found", "piece"]) (sc := defScope s_law) (by decide +kernel)) (fun _ _ _ _ _ => (pg_name (i := 7) sc_law.nd rfl (.inl rfl))) (fun _ _ _ _ _ => pts_nil) (fun _ _ _ _ _ => (pe_own O_law_shown (hr.mono (by decide)) (by rfl) (pa_cons (pv 7) pa_nil)))) pa_nil)))))
                (pss_one (ps_ret pe_bl))
                pss_nil)
            (pss_cons (ps_asg (pe_own O_law_by_hand (hr.mono (by decide)) (by rfl) (pa_cons (pv 1) pa_nil)) (pg_tup rfl (pgs_cons (pg_name (i := 5) sc_law.nd rfl (.inl rfl)) (pgs_cons (pg_name (i := 3) sc_law.nd rfl (.inl rfl)) pgs_nil))))
            (pss_one (ps_if (PW.pt (pw_or (pt_cmpR op_ne (pe_own O_joined (hr.mono (by decide)) (by rfl) (pa_cons (pv 5) pa_nil)) (pv 3) (nomark _)) (pw_or1 (PW.pt (pw_and (pt_cmpR op_gt (pe_callB call_len_seq (by rfl) m_len PySem.boot_len (pa_cons (pv 5) pa_nil)) pe_int (nomark _)) (pw_and1 (pt_cmpR op_ne (pe_fldK (K' := K) rfl (pe_ix ix_list (pv 5) pe_int (fun _ _ => rfl)) rfl) pe_int (nomark _))))))))
                (pss_one (ps_ret pe_bl))
                pss_nil))))))))))
      (pss_one (ps_ret (pe_cmpR op_eq (pe_own O_joined (hr.mono (by decide)) (by rfl) (pa_cons (pe_lst pa_nil) pa_nil)) pe_str (nomark _)))))), ?_⟩
    refine ⟨.ref a, rfl, a, ns, rfl, hS, hlen, fun H1 D A1 B s1 dr nD nA => ?_⟩
    refine ⟨8, rfl, by decide, by decide, for_range (n := 8) (fun i σ H2 => ∃ (n : Int) (v2 v3 v4 v5 v6 : Option V), σ = [some (.ref a), some (.ref D), v2, v3, v4, v5, v6, none] ∧ Drw H2 D A1 B n ∧ n ≤ 1000 * i) ⟨0, _, _, _, _, _, rfl, dr, by omega⟩ ?_ ?_⟩
    · rintro i σ H2 hi ⟨n, v2, v3, v4, v5, v6, rfl, dr, hn⟩
      refine ⟨.ref D, rfl, .ref D, rfl, D, A1, B, n, 6, rfl, by decide, dr, by omega, fun ps ts p m H3 hdo hpt ep np d3 hm k3 => ⟨.ref D, rfl, by show 3 ≤ sizeLine; decide, fun L nL => ?_⟩⟩
      generalize hH : upd H3 L _ = H3'
      obtain ⟨sL, eL⟩ := laid hH nL
      have LD := fresh_ne d3 nL
      have pD := fresh_ne dr np
      have pB : p ≠ B := by
        obtain ⟨_, _, ⟨_, eB⟩⟩ := dr.tracked
        exact (ne_of_none eB np).symm
      refine ⟨D, A1, B, L, m, intsV [0, 2, 8], rfl, d3.same sL, by omega, .inl eL, LD.1, LD.2, by decide, by decide, fun i0 v H4 hv d4 k4 => ?_⟩
      obtain ⟨j, hj, rfl⟩ := ints_of hv
      have j8 : j ≤ 16 := mem_le (by decide) hj
      have ep4 := k4 _ _ (sL _ _ ep) pD.1 pD.2
      have hpt4 := (hpt.keep (KeepT.of sL)).keep (KeepT.kept (d3.same sL) k4 (by simp) (by simp))
      refine ⟨D, A1, B, p, m + 1, j, ps, ts, rfl, d4, by omega, j8, ep4, by simp [pD.1, pD.2, pB], hpt4, hdo, fun ns e T E us m2 H5 sim ok he eT nT eE nE hdu d5 hm5 k5 => ?_⟩
      have off := off_of (s := j) ok
      have nice := sim_niceAll sim fun p hp => (hdo.2.1 p hp).2
      have hsz := sim_szAll sim fun p hp => (hdo.2.1 p hp).1
      have sq := seq_sim hdo.1 sim ok
      have hall : ∀ q ∈ ns, q.Ok ∧ q.Off j (leastN (leads ((rowsAll ns).map (shl j)))) ∧ q.Nice := fun q hq => ⟨ok q hq, off q hq, nice q hq⟩
      have rz := rowsAll_sz fun q hq => ⟨hsz q hq, ok q hq⟩
      have nl7 : ns.length ≤ 7 := by
        have := SimAll.len sim
        have := hdo.2.2
        omega
      have rs : ∀ l ∈ (rowsAll ns).map (shl j), szL 90 l := fun l hl => by
        obtain ⟨l', h, rfl⟩ := List.mem_map.mp hl
        have := shl_sz (s := j) (rz.2 l' h)
        exact ⟨this.1, Nat.le_trans this.2 (by omega)⟩
      have rl : ((rowsAll ns).map (shl j)).length ≤ 49 := by
        rw [List.length_map]
        omega
      obtain ⟨init, ls, last, rd, wh, ⟨lf, okl⟩, hf⟩ := whole_rows sq rl rs he
      have tb := tabby_ls rd fun q hq => ⟨ok q hq, nice q hq⟩
      have wt := whole_tabs wh okl lf tb
      have h10 : Rows10 (rowsAll (ns.map (nl j (leastN (leads ((rowsAll ns).map (shl j))))))) := fun l hl h => by
        have := (nl_rows_sz hall rs l hl).1
        unfold okc at this
        rw [List.all_eq_true] at this
        have := this 10 h
        revert this
        decide
      have smo := smoothed_is rd hall he h10
      obtain ⟨init2, ls2, last2, wh2, hf2⟩ := joined_whole sq rfl hall rl rs he
      have jr := joined_rows (m := leastN (leads ((rowsAll ns).map (shl j)))) (s := j) (e := e) ok
      have dok := dues_ok ((rowsAll ns).map (shl j)) (leastN (leads ((rowsAll ns).map (shl j)))) j e ns 0
      have dl := duesB_len ((rowsAll ns).map (shl j)) (leastN (leads ((rowsAll ns).map (shl j)))) j e ns 0
      have pcs : ∀ (C D : Addr) (H : Hp) (us : List V), Paired (Fit C D H) us (duesB ((rowsAll ns).map (shl j)) (leastN (leads ((rowsAll ns).map (shl j)))) j e 0 ns) → Paired (PcOk C D H) us (pcsOf ((rowsAll ns).map (shl j)) (leastN (leads ((rowsAll ns).map (shl j)))) j e 0 ns) := fun C D H us hp => pcs_ok rs j8 (fun q hq => ⟨hsz q hq, ok q hq, off q hq⟩) hp
      have lst : ∀ (H : Hp) (us : List V), Paired (Fit C_Example C_Comment H) us (duesB ((rowsAll ns).map (shl j)) (leastN (leads ((rowsAll ns).map (shl j)))) j e 0 ns) → LastIs K H us (decide (ns ≠ []) && !lastTxt ns) := fun H us hp => last_is T_Example T_Comment z_Es z_Cs hp
      have rpt := rp_text (x := mk (joinL [10] ((rowsAll ns).map (shl j)) ++ endL e)) wh.eq
      have ED := fresh_ne d4 nE
      have lrows : (init ++ [last]).length ≤ 100 ∧ Rows10 (init ++ [last]) ∧ ∀ l ∈ init ++ [last], l.length ≤ 200 := by
        rw [← rd.lev]
        unfold levW
        refine ⟨by rw [List.length_map]; omega, fun l hl => ?_, fun l hl => ?_⟩
        · obtain ⟨l', h, rfl⟩ := List.mem_map.mp hl
          exact fun h2 => (okc_no (okl l' h).1 10 (List.mem_of_mem_drop h2)).1 rfl
        · obtain ⟨l', h, rfl⟩ := List.mem_map.mp hl
          have := (okl l' h).2
          rw [List.length_drop]
          omega
      have hm6 : m2 ≤ 1000 * i + 201 := by omega
      clear sim hm hm5 hpt4 hpt hdo k3 k4 k5 tb rd he
      generalize duesB ((rowsAll ns).map (shl j)) (leastN (leads ((rowsAll ns).map (shl j)))) j e 0 ns = ds at *
      generalize pcsOf ((rowsAll ns).map (shl j)) (leastN (leads ((rowsAll ns).map (shl j)))) j e 0 ns = pcl at *
      generalize joinL [10] (rowsAll (ns.map (nl j (leastN (leads ((rowsAll ns).map (shl j))))))) ++ endL (endJ e ns) = F at *
      generalize mk (joinL [10] ((rowsAll ns).map (shl j)) ++ endL e) = text at *
      generalize (decide (ns ≠ []) && !lastTxt ns) = bl at *
      refine ⟨T, [.str text, .ref E], rfl, SqT.of eT, rfl, _, _, rfl, _, _, rfl, rfl, ?_⟩
      refine ⟨fun σ H6 => ∃ (x : Str) (lsx : List (List Nat)) (m3 : Int) (vt : Option V), σ = [some (.ref a), some (.ref D), vt, some (.str x), some (.ref E), v5, v6, none] ∧ Whole x lsx init last ∧ Drw H6 D A1 B m3 ∧ m3 ≤ m2 + 1 ∧ Kept D A1 H5 H6, ?_, ?_⟩
      · refine ⟨.ref D, rfl, D, A1, B, m2, 2, rfl, d5, by omega, by decide, by decide, fun r H6 r0 r1 d6 k6 => ⟨rfl, _, rfl, ite2 (fun _ => ?_) (fun _ => ⟨text, ls, m2 + 1, _, rfl, wh, d6, by omega, k6⟩)⟩⟩
        have lx : text.length ≤ 9000 := by rw [len_tl]; exact wh.lx
        have l8 := cut_eight text (by omega)
        have l9 : ("\t" : Str).length = 1 := rfl
        refine ⟨.str text, rfl, 8, rfl, text, rfl, line_of (by omega), ⟨_, rfl⟩, _, " ", rfl, rfl, line_of (by omega), rfl, _, rfl, ite2 (fun _ => ?_) (fun _ => ⟨.str text, rfl, text, ls, m2 + 1, _, rfl, wh, d6, by omega, k6⟩)⟩
        refine ⟨.str text, rfl, text, rfl, by rw [l9]; omega, ?_⟩
        rw [rpt]
        exact ⟨_, _, m2 + 1, _, rfl, wt, d6, by omega, k6⟩
      rintro σ H6 ⟨x, lsx, m3, vt, rfl, whx, d6, hm3, k6⟩
      obtain ⟨⟨as, bs, c, e1, e2, e3⟩, _⟩ := d5
      have hdu6 := hdu.kept ⟨_, e1⟩ ⟨_, e2⟩ k6
      have eE6 := k6 _ _ eE ED.1 ED.2
      clear hdu eE k6 eT nT nE wh wt rpt okl lf
      -- the pieces, joined
      refine ⟨.str x, rfl, x, lsx, init, last, rfl, whx, fun H7 L7 us7 s7 n7 e7 hpc => ?_⟩
      have fit7 := hf _ _ H7 us7 hpc
      have l7 := Paired.length fit7
      refine ⟨.ref L7, rfl, L7, us7, pcl, rfl, .inl e7, pcs _ _ H7 us7 fit7, by omega, fun H8 s8 => ?_⟩
      rw [jr]
      refine ⟨.str (mk F), rfl, .str x, rfl, x, lsx, rfl, whx.eq, whx.ne, whx.sg, by have := whx.lx; omega, fun H9 s9 => ?_⟩
      rw [whx.lev]
      have s79 := s8.trans s9
      refine ⟨.ref L7, rfl, mk (joinL [10] (init ++ [last])), init ++ [last], L7, us7, bl, rfl, s79 _ _ e7, rfl, by simp, lrows.2.1, lrows.1, lrows.2.2, by omega, fun H' s' => lst H' us7 (paired_imp (fun _ _ z => z.same (s79.trans s')) fit7), fun H10 s10 => ⟨rfl, _, rfl, ?_⟩⟩
      rw [smo, decide_eq_true rfl]
      have s710 := s79.trans s10
      refine iteF ⟨.ref L7, rfl, L7, us7, rfl, .inl ⟨SqL.of (s710 _ _ e7), fun T2 nT2 => ?_⟩⟩
      generalize hT2 : upd H10 T2 _ = H11
      obtain ⟨s11, e11⟩ := laid hT2 nT2
      have s711 := s710.trans s11
      refine ⟨T2, us7, pcl, rfl, .inr e11, paired_imp (fun _ _ z => z.same s711) (pcs _ _ H7 us7 fit7), by omega, fun H12 s12 => ⟨.str (mk F), rfl, rfl, _, rfl, ?_⟩⟩
      rw [jr, decide_eq_true rfl]
      have s712 := s711.trans s12
      clear s8 s9 s79 s10 s710 nT2 hT2 e11 s11 s711 s12
      -- read again
      refine iteF ⟨.str (mk F), rfl, mk F, ls2, init2, last2, rfl, wh2, fun H13 L13 us13 s13 n13 e13 hpc2 => ⟨L13, rfl, ⟨_, SqL.of e13⟩, fun C1 nC1 => ?_⟩⟩
      have fit13 := hf2 _ _ H13 us13 hpc2
      have l13 := Paired.length fit13
      have s713 := s712.trans s13
      have du13 := hdu6.same (s7.trans s713)
      have lu := du13.len
      refine lc_list (K := K) (a := L13) (xs := us13) (fun q H14 => Shn C1 H13 us q H14) (Shn.begin nC1) (fun q H14 _ h => by obtain ⟨_, _, _, h3⟩ := h; exact SqL.of (cutH_le C1 H14 _ _ (h3 _ _ e13))) ?_ ?_
      · rintro q v H14 hv h14
        refine ⟨rfl, ?_⟩
        unfold tYes
        show ite (true = true) _ _
        rw [if_pos rfl]
        exact ⟨v, rfl, Shn.step (E := E0) hv fit13 du13 dok (by omega) h14⟩
      rintro H14 h14
      rw [l13, ← lu] at h14
      obtain ⟨xs1, eC1, sam1, s14⟩ := h14.close
      have s714 := s713.trans s14
      have fit14 := paired_imp (fun _ _ z => Fit.same s714 z) fit7
      have du14 := du13.same s14
      refine ⟨.ref L7, rfl, L7, rfl, ⟨_, SqL.of (s714 _ _ e7)⟩, fun C2 nC2 => ?_⟩
      refine lc_list (K := K) (a := L7) (xs := us7) (fun q H15 => Shn C2 H14 us q H15) (Shn.begin nC2) (fun q H15 _ h => by obtain ⟨_, _, _, h3⟩ := h; exact SqL.of (cutH_le C2 H15 _ _ (h3 _ _ (s714 _ _ e7)))) ?_ ?_
      · rintro q v H15 hv h15
        refine ⟨rfl, ?_⟩
        unfold tYes
        show ite (true = true) _ _
        rw [if_pos rfl]
        exact ⟨v, rfl, Shn.step (E := E0) hv fit14 du14 dok (by omega) h15⟩
      rintro H15 h15
      rw [l7, ← lu] at h15
      obtain ⟨xs2, eC2, sam2, s15⟩ := h15.close
      refine ⟨C1, C2, xs1, xs2, rfl, s15 _ _ eC1, eC2, paired_both (F := Sam1 H15) (fun _ _ _ h1 h2 => Sam1.both h1 h2) (paired_imp (fun _ _ z => z.same s15) sam1) sam2, by rw [Paired.length sam1, List.length_map]; omega, fun H16 s16 => ⟨true, rfl, ?_⟩⟩
      have d16 := d6.same (s7.trans (s714.trans (s15.trans s16)))
      clear fit7 fit13 fit14 du13 du14 s714 s15 s16 sam1 sam2 h14 h15 hdu6 s14 s713
      -- by hand
      refine iteF ⟨.ref D, rfl, D, A1, B, m3, rfl, d16, by omega, fun usH psH tx p T H17 HI eT nP => ?_⟩
      obtain ⟨m4, d17, hm4⟩ := HI.ex
      have eP := HI.eP
      refine ⟨T, _, rfl, SqT.of eT, rfl, _, _, rfl, _, _, rfl, rfl, .ref p, rfl, p, usH, psH, rfl, .inl eP, HI.pr, by have := HI.ul; omega, fun H18 s18 => ⟨.str (mk tx), rfl, rfl, _, rfl, ?_⟩⟩
      rw [← HI.eq, decide_eq_true rfl]
      have lul := HI.ul
      have fin : ∃ (n : Int) (v2 v3 v4 v5 v6 : Option V), [some (V.ref a), some (.ref D), vt, some (.str (mk tx)), some (.ref E), some (.ref p), some (.str (mk F)), none] = [some (.ref a), some (.ref D), v2, v3, v4, v5, v6, none] ∧ Drw H18 D A1 B n ∧ n ≤ 1000 * ((i + 1 : Nat) : Int) := ⟨m4, _, _, _, _, _, rfl, d17.same s18, by push_cast at hm4 ⊢; omega⟩
      refine iteF ⟨.ref p, rfl, p, usH, rfl, .inl (SqL.of (s18 _ _ eP)), _, _, rfl, rfl, _, rfl, ?_⟩
      rcases HI.fs with rfl | ⟨q, dx, fs, h1, h2, h3⟩
      · exact iteF (iteF fin)
      · refine ite2 (fun _ => ?_) (fun _ => iteF fin)
        refine ⟨.ref p, rfl, p, usH, 0, .ref q, rfl, rfl, SqL.of (s18 _ _ eP), atI_nat (j := 0) h1, q, C_Example, dx, fs, _, rfl, s18 _ _ h2, T_Example.cl, T_Example.n_line, h3, rfl, _, rfl, ?_⟩
        rw [decide_eq_true rfl]
        exact iteF fin
    · rintro σ H2 ⟨n, v2, v3, v4, v5, v6, rfl, dr, hn⟩
      refine ⟨by show 0 ≤ sizeLine; decide, fun L nL => ⟨L, [], [], rfl, .inl upd_same, .nil, Nat.zero_le _, fun H3 s3 => ⟨rfl, ?_⟩⟩⟩
      have e00 : ("" : Str) = mk [] := ext_tl (by decide +kernel)
      rw [e00]
      show Q (.bl (decide (V.str (mk []) = V.str (mk [])))) _
      rw [decide_eq_true rfl]
      exact k _
end
set_option maxHeartbeats 0
theorem all_mk {l : PySem.W.OpenLaw} {w : World} {K : PySem.W.Frag} {h : Heap} {mg : Str → Option Value} {fa : Addr} {f0 : Addr} {od0 an0 : Option Addr} {sl0 : Array (Option Value)} {oc0 kV0 dc0 pm0 cd0 ct0 : Value}
    {f1 : Addr} {od1 an1 : Option Addr} {sl1 : Array (Option Value)} {oc1 kV1 dc1 pm1 cd1 ct1 : Value}
    {f2 : Addr} {od2 an2 : Option Addr} {sl2 : Array (Option Value)} {oc2 kV2 dc2 pm2 cd2 ct2 : Value}
    {f3 : Addr} {od3 an3 : Option Addr} {sl3 : Array (Option Value)} {oc3 kV3 dc3 pm3 cd3 ct3 : Value}
    {f4 : Addr} {od4 an4 : Option Addr} {sl4 : Array (Option Value)} {oc4 kV4 dc4 pm4 cd4 ct4 : Value}
    {f5 : Addr} {od5 an5 : Option Addr} {sl5 : Array (Option Value)} {oc5 kV5 dc5 pm5 cd5 ct5 : Value}
    {f6 : Addr} {od6 an6 : Option Addr} {sl6 : Array (Option Value)} {oc6 kV6 dc6 pm6 cd6 ct6 : Value}
    {f7 : Addr} {od7 an7 : Option Addr} {sl7 : Array (Option Value)} {oc7 kV7 dc7 pm7 cd7 ct7 : Value}
    {f8 : Addr} {od8 an8 : Option Addr} {sl8 : Array (Option Value)} {oc8 kV8 dc8 pm8 cd8 ct8 : Value}
    {f9 : Addr} {od9 an9 : Option Addr} {sl9 : Array (Option Value)} {oc9 kV9 dc9 pm9 cd9 ct9 : Value}
    {f10 : Addr} {od10 an10 : Option Addr} {sl10 : Array (Option Value)} {oc10 kV10 dc10 pm10 cd10 ct10 : Value}
    {f11 : Addr} {od11 an11 : Option Addr} {sl11 : Array (Option Value)} {oc11 kV11 dc11 pm11 cd11 ct11 : Value}
    {f12 : Addr} {od12 an12 : Option Addr} {sl12 : Array (Option Value)} {oc12 kV12 dc12 pm12 cd12 ct12 : Value}
    {f13 : Addr} {od13 an13 : Option Addr} {sl13 : Array (Option Value)} {oc13 kV13 dc13 pm13 cd13 ct13 : Value}
    {f14 : Addr} {od14 an14 : Option Addr} {sl14 : Array (Option Value)} {oc14 kV14 dc14 pm14 cd14 ct14 : Value}
    {f15 : Addr} {od15 an15 : Option Addr} {sl15 : Array (Option Value)} {oc15 kV15 dc15 pm15 cd15 ct15 : Value}
    {f16 : Addr} {od16 an16 : Option Addr} {sl16 : Array (Option Value)} {oc16 kV16 dc16 pm16 cd16 ct16 : Value}
    {f17 : Addr} {od17 an17 : Option Addr} {sl17 : Array (Option Value)} {oc17 kV17 dc17 pm17 cd17 ct17 : Value}
    {f18 : Addr} {od18 an18 : Option Addr} {sl18 : Array (Option Value)} {oc18 kV18 dc18 pm18 cd18 ct18 : Value}
    {f19 : Addr} {od19 an19 : Option Addr} {sl19 : Array (Option Value)} {oc19 kV19 dc19 pm19 cd19 ct19 : Value}
    {f20 : Addr} {od20 an20 : Option Addr} {sl20 : Array (Option Value)} {oc20 kV20 dc20 pm20 cd20 ct20 : Value}
    {f21 : Addr} {od21 an21 : Option Addr} {sl21 : Array (Option Value)} {oc21 kV21 dc21 pm21 cd21 ct21 : Value}
    {f22 : Addr} {od22 an22 : Option Addr} {sl22 : Array (Option Value)} {oc22 kV22 dc22 pm22 cd22 ct22 : Value}
    {f23 : Addr} {od23 an23 : Option Addr} {sl23 : Array (Option Value)} {oc23 kV23 dc23 pm23 cd23 ct23 : Value}
    {f24 : Addr} {od24 an24 : Option Addr} {sl24 : Array (Option Value)} {oc24 kV24 dc24 pm24 cd24 ct24 : Value}
    {f25 : Addr} {od25 an25 : Option Addr} {sl25 : Array (Option Value)} {oc25 kV25 dc25 pm25 cd25 ct25 : Value}
    {f26 : Addr} {od26 an26 : Option Addr} {sl26 : Array (Option Value)} {oc26 kV26 dc26 pm26 cd26 ct26 : Value}
    {f27 : Addr} {od27 an27 : Option Addr} {sl27 : Array (Option Value)} {oc27 kV27 dc27 pm27 cd27 ct27 : Value}
    {f28 : Addr} {od28 an28 : Option Addr} {sl28 : Array (Option Value)} {oc28 kV28 dc28 pm28 cd28 ct28 : Value}
    {f29 : Addr} {od29 an29 : Option Addr} {sl29 : Array (Option Value)} {oc29 kV29 dc29 pm29 cd29 ct29 : Value}
    {f30 : Addr} {od30 an30 : Option Addr} {sl30 : Array (Option Value)} {oc30 kV30 dc30 pm30 cd30 ct30 : Value}
    {f31 : Addr} {od31 an31 : Option Addr} {sl31 : Array (Option Value)} {oc31 kV31 dc31 pm31 cd31 ct31 : Value}
    {f32 : Addr} {od32 an32 : Option Addr} {sl32 : Array (Option Value)} {oc32 kV32 dc32 pm32 cd32 ct32 : Value}
    {f33 : Addr} {od33 an33 : Option Addr} {sl33 : Array (Option Value)} {oc33 kV33 dc33 pm33 cd33 ct33 : Value}
    {f34 : Addr} {od34 an34 : Option Addr} {sl34 : Array (Option Value)} {oc34 kV34 dc34 pm34 cd34 ct34 : Value}
    {f35 : Addr} {od35 an35 : Option Addr} {sl35 : Array (Option Value)} {oc35 kV35 dc35 pm35 cd35 ct35 : Value}
    {f36 : Addr} {od36 an36 : Option Addr} {sl36 : Array (Option Value)} {oc36 kV36 dc36 pm36 cd36 ct36 : Value}
    {f37 : Addr} {od37 an37 : Option Addr} {sl37 : Array (Option Value)} {oc37 kV37 dc37 pm37 cd37 ct37 : Value}
    {f38 : Addr} {od38 an38 : Option Addr} {sl38 : Array (Option Value)} {oc38 kV38 dc38 pm38 cd38 ct38 : Value}
    {f39 : Addr} {od39 an39 : Option Addr} {sl39 : Array (Option Value)} {oc39 kV39 dc39 pm39 cd39 ct39 : Value}
    {f40 : Addr} {od40 an40 : Option Addr} {sl40 : Array (Option Value)} {oc40 kV40 dc40 pm40 cd40 ct40 : Value}
    {f41 : Addr} {od41 an41 : Option Addr} {sl41 : Array (Option Value)} {oc41 kV41 dc41 pm41 cd41 ct41 : Value}
    {f42 : Addr} {od42 an42 : Option Addr} {sl42 : Array (Option Value)} {oc42 kV42 dc42 pm42 cd42 ct42 : Value}
    {f43 : Addr} {od43 an43 : Option Addr} {sl43 : Array (Option Value)} {oc43 kV43 dc43 pm43 cd43 ct43 : Value}
    {f44 : Addr} {od44 an44 : Option Addr} {sl44 : Array (Option Value)} {oc44 kV44 dc44 pm44 cd44 ct44 : Value}
    {f45 : Addr} {od45 an45 : Option Addr} {sl45 : Array (Option Value)} {oc45 kV45 dc45 pm45 cd45 ct45 : Value}
    {f46 : Addr} {od46 an46 : Option Addr} {sl46 : Array (Option Value)} {oc46 kV46 dc46 pm46 cd46 ct46 : Value}
    {f47 : Addr} {od47 an47 : Option Addr} {sl47 : Array (Option Value)} {oc47  dc47 pm47 cd47 ct47 : Value}
    {tk47_0 : Tok}
    {T47 : Addr} {Tc47 : Value} {Td47 : Option Addr} {Tn47 : Nat} {Ts47 : Array (Option Value)}
    {KD47 : Addr}
    {kt47_line : Tok}
    {kt47_indent : Tok}
    {f48 : Addr} {od48 an48 : Option Addr} {sl48 : Array (Option Value)} {oc48  dc48 pm48 cd48 ct48 : Value}
    {tk48_0 : Tok}
    {T48 : Addr} {Tc48 : Value} {Td48 : Option Addr} {Tn48 : Nat} {Ts48 : Array (Option Value)}
    {KD48 : Addr}
    {kt48_line : Tok}
    {kt48_indent : Tok}
    {C_Example : Addr}
    {C_Comment : Addr}
    {t_AHEAD : Tok}
    {t_BLANKS : Tok}
    {t_FURTHER : Tok}
    {a_HEADERS : Addr} {ad_HEADERS : Option Addr} {an_HEADERS : Nat} {as_HEADERS : Array (Option Value)} {t_HEADERS0 t_HEADERS1 : Tok}
    {t_MARK : Tok}
    {t_PROMPT : Tok}
    {t_TAB : Tok} (X : K.In h) (G : h.Ns mainGlobals mg) (hfa : mg "law" = some (.ref fa))
    (a0 : PySem.W.nsIn K mainGlobals "kept_lines" = some (some (.ref f0))) (l0 : K.lookup f0 = some ⟨oc0, od0, .func (PySem.W.fnOf "kept_lines" "kept_lines" (defArgs s_kept_lines) (defBody s_kept_lines) (defScope s_kept_lines) .none kV0 dc0 pm0 an0 cd0 ct0), sl0⟩) (e0 : PySem.W.codeIn K cd0 "kept_lines" = true) (k0 : PySem.W.keepIn K (.ref f0) = true)
    (a1 : PySem.W.nsIn K mainGlobals "lines_of" = some (some (.ref f1))) (l1 : K.lookup f1 = some ⟨oc1, od1, .func (PySem.W.fnOf "lines_of" "lines_of" (defArgs s_lines_of) (defBody s_lines_of) (defScope s_lines_of) .none kV1 dc1 pm1 an1 cd1 ct1), sl1⟩) (e1 : PySem.W.codeIn K cd1 "lines_of" = true) (k1 : PySem.W.keepIn K (.ref f1) = true)
    (a2 : PySem.W.nsIn K mainGlobals "fed" = some (some (.ref f2))) (l2 : K.lookup f2 = some ⟨oc2, od2, .func (PySem.W.fnOf "fed" "fed" (defArgs s_fed) (defBody s_fed) (defScope s_fed) .none kV2 dc2 pm2 an2 cd2 ct2), sl2⟩) (e2 : PySem.W.codeIn K cd2 "fed" = true) (k2 : PySem.W.keepIn K (.ref f2) = true)
    (a3 : PySem.W.nsIn K mainGlobals "indent_of" = some (some (.ref f3))) (l3 : K.lookup f3 = some ⟨oc3, od3, .func (PySem.W.fnOf "indent_of" "indent_of" (defArgs s_indent_of) (defBody s_indent_of) (defScope s_indent_of) .none kV3 dc3 pm3 an3 cd3 ct3), sl3⟩) (e3 : PySem.W.codeIn K cd3 "indent_of" = true) (k3 : PySem.W.keepIn K (.ref f3) = true)
    (a4 : PySem.W.nsIn K mainGlobals "is_blank" = some (some (.ref f4))) (l4 : K.lookup f4 = some ⟨oc4, od4, .func (PySem.W.fnOf "is_blank" "is_blank" (defArgs s_is_blank) (defBody s_is_blank) (defScope s_is_blank) .none kV4 dc4 pm4 an4 cd4 ct4), sl4⟩) (e4 : PySem.W.codeIn K cd4 "is_blank" = true) (k4 : PySem.W.keepIn K (.ref f4) = true)
    (a5 : PySem.W.nsIn K mainGlobals "words_of" = some (some (.ref f5))) (l5 : K.lookup f5 = some ⟨oc5, od5, .func (PySem.W.fnOf "words_of" "words_of" (defArgs s_words_of) (defBody s_words_of) (defScope s_words_of) .none kV5 dc5 pm5 an5 cd5 ct5), sl5⟩) (e5 : PySem.W.codeIn K cd5 "words_of" = true) (k5 : PySem.W.keepIn K (.ref f5) = true)
    (a6 : PySem.W.nsIn K mainGlobals "begins" = some (some (.ref f6))) (l6 : K.lookup f6 = some ⟨oc6, od6, .func (PySem.W.fnOf "begins" "begins" (defArgs s_begins) (defBody s_begins) (defScope s_begins) .none kV6 dc6 pm6 an6 cd6 ct6), sl6⟩) (e6 : PySem.W.codeIn K cd6 "begins" = true) (k6 : PySem.W.keepIn K (.ref f6) = true)
    (a7 : PySem.W.nsIn K mainGlobals "cuts_of" = some (some (.ref f7))) (l7 : K.lookup f7 = some ⟨oc7, od7, .func (PySem.W.fnOf "cuts_of" "cuts_of" (defArgs s_cuts_of) (defBody s_cuts_of) (defScope s_cuts_of) .none kV7 dc7 pm7 an7 cd7 ct7), sl7⟩) (e7 : PySem.W.codeIn K cd7 "cuts_of" = true) (k7 : PySem.W.keepIn K (.ref f7) = true)
    (a8 : PySem.W.nsIn K mainGlobals "behind_source" = some (some (.ref f8))) (l8 : K.lookup f8 = some ⟨oc8, od8, .func (PySem.W.fnOf "behind_source" "behind_source" (defArgs s_behind_source) (defBody s_behind_source) (defScope s_behind_source) .none kV8 dc8 pm8 an8 cd8 ct8), sl8⟩) (e8 : PySem.W.codeIn K cd8 "behind_source" = true) (k8 : PySem.W.keepIn K (.ref f8) = true)
    (a9 : PySem.W.nsIn K mainGlobals "behind_expected" = some (some (.ref f9))) (l9 : K.lookup f9 = some ⟨oc9, od9, .func (PySem.W.fnOf "behind_expected" "behind_expected" (defArgs s_behind_expected) (defBody s_behind_expected) (defScope s_behind_expected) .none kV9 dc9 pm9 an9 cd9 ct9), sl9⟩) (e9 : PySem.W.codeIn K cd9 "behind_expected" = true) (k9 : PySem.W.keepIn K (.ref f9) = true)
    (a10 : PySem.W.nsIn K mainGlobals "refuse_wrong_lines" = some (some (.ref f10))) (l10 : K.lookup f10 = some ⟨oc10, od10, .func (PySem.W.fnOf "refuse_wrong_lines" "refuse_wrong_lines" (defArgs s_refuse_wrong_lines) (defBody s_refuse_wrong_lines) (defScope s_refuse_wrong_lines) .none kV10 dc10 pm10 an10 cd10 ct10), sl10⟩) (e10 : PySem.W.codeIn K cd10 "refuse_wrong_lines" = true) (k10 : PySem.W.keepIn K (.ref f10) = true)
    (a11 : PySem.W.nsIn K mainGlobals "refuse_wrong_indents" = some (some (.ref f11))) (l11 : K.lookup f11 = some ⟨oc11, od11, .func (PySem.W.fnOf "refuse_wrong_indents" "refuse_wrong_indents" (defArgs s_refuse_wrong_indents) (defBody s_refuse_wrong_indents) (defScope s_refuse_wrong_indents) .none kV11 dc11 pm11 an11 cd11 ct11), sl11⟩) (e11 : PySem.W.codeIn K cd11 "refuse_wrong_indents" = true) (k11 : PySem.W.keepIn K (.ref f11) = true)
    (a12 : PySem.W.nsIn K mainGlobals "require_flags" = some (some (.ref f12))) (l12 : K.lookup f12 = some ⟨oc12, od12, .func (PySem.W.fnOf "require_flags" "require_flags" (defArgs s_require_flags) (defBody s_require_flags) (defScope s_require_flags) .none kV12 dc12 pm12 an12 cd12 ct12), sl12⟩) (e12 : PySem.W.codeIn K cd12 "require_flags" = true) (k12 : PySem.W.keepIn K (.ref f12) = true)
    (a13 : PySem.W.nsIn K mainGlobals "directive_of" = some (some (.ref f13))) (l13 : K.lookup f13 = some ⟨oc13, od13, .func (PySem.W.fnOf "directive_of" "directive_of" (defArgs s_directive_of) (defBody s_directive_of) (defScope s_directive_of) .none kV13 dc13 pm13 an13 cd13 ct13), sl13⟩) (e13 : PySem.W.codeIn K cd13 "directive_of" = true) (k13 : PySem.W.keepIn K (.ref f13) = true)
    (a14 : PySem.W.nsIn K mainGlobals "directive_words" = some (some (.ref f14))) (l14 : K.lookup f14 = some ⟨oc14, od14, .func (PySem.W.fnOf "directive_words" "directive_words" (defArgs s_directive_words) (defBody s_directive_words) (defScope s_directive_words) .none kV14 dc14 pm14 an14 cd14 ct14), sl14⟩) (e14 : PySem.W.codeIn K cd14 "directive_words" = true) (k14 : PySem.W.keepIn K (.ref f14) = true)
    (a15 : PySem.W.nsIn K mainGlobals "options_of" = some (some (.ref f15))) (l15 : K.lookup f15 = some ⟨oc15, od15, .func (PySem.W.fnOf "options_of" "options_of" (defArgs s_options_of) (defBody s_options_of) (defScope s_options_of) .none kV15 dc15 pm15 an15 cd15 ct15), sl15⟩) (e15 : PySem.W.codeIn K cd15 "options_of" = true) (k15 : PySem.W.keepIn K (.ref f15) = true)
    (a16 : PySem.W.nsIn K mainGlobals "bare_of" = some (some (.ref f16))) (l16 : K.lookup f16 = some ⟨oc16, od16, .func (PySem.W.fnOf "bare_of" "bare_of" (defArgs s_bare_of) (defBody s_bare_of) (defScope s_bare_of) .none kV16 dc16 pm16 an16 cd16 ct16), sl16⟩) (e16 : PySem.W.codeIn K cd16 "bare_of" = true) (k16 : PySem.W.keepIn K (.ref f16) = true)
    (a17 : PySem.W.nsIn K mainGlobals "bare_line" = some (some (.ref f17))) (l17 : K.lookup f17 = some ⟨oc17, od17, .func (PySem.W.fnOf "bare_line" "bare_line" (defArgs s_bare_line) (defBody s_bare_line) (defScope s_bare_line) .none kV17 dc17 pm17 an17 cd17 ct17), sl17⟩) (e17 : PySem.W.codeIn K cd17 "bare_line" = true) (k17 : PySem.W.keepIn K (.ref f17) = true)
    (a18 : PySem.W.nsIn K mainGlobals "is_remark" = some (some (.ref f18))) (l18 : K.lookup f18 = some ⟨oc18, od18, .func (PySem.W.fnOf "is_remark" "is_remark" (defArgs s_is_remark) (defBody s_is_remark) (defScope s_is_remark) .none kV18 dc18 pm18 an18 cd18 ct18), sl18⟩) (e18 : PySem.W.codeIn K cd18 "is_remark" = true) (k18 : PySem.W.keepIn K (.ref f18) = true)
    (a19 : PySem.W.nsIn K mainGlobals "widened" = some (some (.ref f19))) (l19 : K.lookup f19 = some ⟨oc19, od19, .func (PySem.W.fnOf "widened" "widened" (defArgs s_widened) (defBody s_widened) (defScope s_widened) .none kV19 dc19 pm19 an19 cd19 ct19), sl19⟩) (e19 : PySem.W.codeIn K cd19 "widened" = true) (k19 : PySem.W.keepIn K (.ref f19) = true)
    (a20 : PySem.W.nsIn K mainGlobals "levelled" = some (some (.ref f20))) (l20 : K.lookup f20 = some ⟨oc20, od20, .func (PySem.W.fnOf "levelled" "levelled" (defArgs s_levelled) (defBody s_levelled) (defScope s_levelled) .none kV20 dc20 pm20 an20 cd20 ct20), sl20⟩) (e20 : PySem.W.codeIn K cd20 "levelled" = true) (k20 : PySem.W.keepIn K (.ref f20) = true)
    (a21 : PySem.W.nsIn K mainGlobals "parsed" = some (some (.ref f21))) (l21 : K.lookup f21 = some ⟨oc21, od21, .func (PySem.W.fnOf "parsed" "parsed" (defArgs s_parsed) (defBody s_parsed) (defScope s_parsed) .none kV21 dc21 pm21 an21 cd21 ct21), sl21⟩) (e21 : PySem.W.codeIn K cd21 "parsed" = true) (k21 : PySem.W.keepIn K (.ref f21) = true)
    (a22 : PySem.W.nsIn K mainGlobals "piece_at" = some (some (.ref f22))) (l22 : K.lookup f22 = some ⟨oc22, od22, .func (PySem.W.fnOf "piece_at" "piece_at" (defArgs s_piece_at) (defBody s_piece_at) (defScope s_piece_at) .none kV22 dc22 pm22 an22 cd22 ct22), sl22⟩) (e22 : PySem.W.codeIn K cd22 "piece_at" = true) (k22 : PySem.W.keepIn K (.ref f22) = true)
    (a23 : PySem.W.nsIn K mainGlobals "error_of" = some (some (.ref f23))) (l23 : K.lookup f23 = some ⟨oc23, od23, .func (PySem.W.fnOf "error_of" "error_of" (defArgs s_error_of) (defBody s_error_of) (defScope s_error_of) .none kV23 dc23 pm23 an23 cd23 ct23), sl23⟩) (e23 : PySem.W.codeIn K cd23 "error_of" = true) (k23 : PySem.W.keepIn K (.ref f23) = true)
    (a24 : PySem.W.nsIn K mainGlobals "is_word_sign" = some (some (.ref f24))) (l24 : K.lookup f24 = some ⟨oc24, od24, .func (PySem.W.fnOf "is_word_sign" "is_word_sign" (defArgs s_is_word_sign) (defBody s_is_word_sign) (defScope s_is_word_sign) .none kV24 dc24 pm24 an24 cd24 ct24), sl24⟩) (e24 : PySem.W.codeIn K cd24 "is_word_sign" = true) (k24 : PySem.W.keepIn K (.ref f24) = true)
    (a25 : PySem.W.nsIn K mainGlobals "joined" = some (some (.ref f25))) (l25 : K.lookup f25 = some ⟨oc25, od25, .func (PySem.W.fnOf "joined" "joined" (defArgs s_joined) (defBody s_joined) (defScope s_joined) .none kV25 dc25 pm25 an25 cd25 ct25), sl25⟩) (e25 : PySem.W.codeIn K cd25 "joined" = true) (k25 : PySem.W.keepIn K (.ref f25) = true)
    (a26 : PySem.W.nsIn K mainGlobals "written" = some (some (.ref f26))) (l26 : K.lookup f26 = some ⟨oc26, od26, .func (PySem.W.fnOf "written" "written" (defArgs s_written) (defBody s_written) (defScope s_written) .none kV26 dc26 pm26 an26 cd26 ct26), sl26⟩) (e26 : PySem.W.codeIn K cd26 "written" = true) (k26 : PySem.W.keepIn K (.ref f26) = true)
    (a27 : PySem.W.nsIn K mainGlobals "_law_draws" = some (some (.ref f27))) (l27 : K.lookup f27 = some ⟨oc27, od27, .func (PySem.W.fnOf "_law_draws" "_law_draws" (defArgs s_law_draws) (defBody s_law_draws) (defScope s_law_draws) .none kV27 dc27 pm27 an27 cd27 ct27), sl27⟩) (e27 : PySem.W.codeIn K cd27 "_law_draws" = true) (k27 : PySem.W.keepIn K (.ref f27) = true)
    (a28 : PySem.W.nsIn K mainGlobals "_law_mixed" = some (some (.ref f28))) (l28 : K.lookup f28 = some ⟨oc28, od28, .func (PySem.W.fnOf "_law_mixed" "_law_mixed" (defArgs s_law_mixed) (defBody s_law_mixed) (defScope s_law_mixed) .none kV28 dc28 pm28 an28 cd28 ct28), sl28⟩) (e28 : PySem.W.codeIn K cd28 "_law_mixed" = true) (k28 : PySem.W.keepIn K (.ref f28) = true)
    (a29 : PySem.W.nsIn K mainGlobals "_law_take" = some (some (.ref f29))) (l29 : K.lookup f29 = some ⟨oc29, od29, .func (PySem.W.fnOf "_law_take" "_law_take" (defArgs s_law_take) (defBody s_law_take) (defScope s_law_take) .none kV29 dc29 pm29 an29 cd29 ct29), sl29⟩) (e29 : PySem.W.codeIn K cd29 "_law_take" = true) (k29 : PySem.W.keepIn K (.ref f29) = true)
    (a30 : PySem.W.nsIn K mainGlobals "_law_same" = some (some (.ref f30))) (l30 : K.lookup f30 = some ⟨oc30, od30, .func (PySem.W.fnOf "_law_same" "_law_same" (defArgs s_law_same00) (defBody s_law_same00) (defScope s_law_same00) .none kV30 dc30 pm30 an30 cd30 ct30), sl30⟩) (e30 : PySem.W.codeIn K cd30 "_law_same" = true) (k30 : PySem.W.keepIn K (.ref f30) = true)
    (a31 : PySem.W.nsIn K mainGlobals "_law_same" = some (some (.ref f31))) (l31 : K.lookup f31 = some ⟨oc31, od31, .func (PySem.W.fnOf "_law_same" "_law_same" (defArgs s_law_same0) (defBody s_law_same0) (defScope s_law_same0) .none kV31 dc31 pm31 an31 cd31 ct31), sl31⟩) (e31 : PySem.W.codeIn K cd31 "_law_same" = true) (k31 : PySem.W.keepIn K (.ref f31) = true)
    (a32 : PySem.W.nsIn K mainGlobals "_law_same" = some (some (.ref f32))) (l32 : K.lookup f32 = some ⟨oc32, od32, .func (PySem.W.fnOf "_law_same" "_law_same" (defArgs s_law_same) (defBody s_law_same) (defScope s_law_same) .none kV32 dc32 pm32 an32 cd32 ct32), sl32⟩) (e32 : PySem.W.codeIn K cd32 "_law_same" = true) (k32 : PySem.W.keepIn K (.ref f32) = true)
    (a33 : PySem.W.nsIn K mainGlobals "_law_pick" = some (some (.ref f33))) (l33 : K.lookup f33 = some ⟨oc33, od33, .func (PySem.W.fnOf "_law_pick" "_law_pick" (defArgs s_law_pick) (defBody s_law_pick) (defScope s_law_pick) .none kV33 dc33 pm33 an33 cd33 ct33), sl33⟩) (e33 : PySem.W.codeIn K cd33 "_law_pick" = true) (k33 : PySem.W.keepIn K (.ref f33) = true)
    (a34 : PySem.W.nsIn K mainGlobals "_law_blank_line" = some (some (.ref f34))) (l34 : K.lookup f34 = some ⟨oc34, od34, .func (PySem.W.fnOf "_law_blank_line" "_law_blank_line" (defArgs s_law_blank_line) (defBody s_law_blank_line) (defScope s_law_blank_line) .none kV34 dc34 pm34 an34 cd34 ct34), sl34⟩) (e34 : PySem.W.codeIn K cd34 "_law_blank_line" = true) (k34 : PySem.W.keepIn K (.ref f34) = true)
    (a35 : PySem.W.nsIn K mainGlobals "_law_text_line" = some (some (.ref f35))) (l35 : K.lookup f35 = some ⟨oc35, od35, .func (PySem.W.fnOf "_law_text_line" "_law_text_line" (defArgs s_law_text_line) (defBody s_law_text_line) (defScope s_law_text_line) .none kV35 dc35 pm35 an35 cd35 ct35), sl35⟩) (e35 : PySem.W.codeIn K cd35 "_law_text_line" = true) (k35 : PySem.W.keepIn K (.ref f35) = true)
    (a36 : PySem.W.nsIn K mainGlobals "_law_source_lines" = some (some (.ref f36))) (l36 : K.lookup f36 = some ⟨oc36, od36, .func (PySem.W.fnOf "_law_source_lines" "_law_source_lines" (defArgs s_law_source_lines) (defBody s_law_source_lines) (defScope s_law_source_lines) .none kV36 dc36 pm36 an36 cd36 ct36), sl36⟩) (e36 : PySem.W.codeIn K cd36 "_law_source_lines" = true) (k36 : PySem.W.keepIn K (.ref f36) = true)
    (a37 : PySem.W.nsIn K mainGlobals "_law_want_lines" = some (some (.ref f37))) (l37 : K.lookup f37 = some ⟨oc37, od37, .func (PySem.W.fnOf "_law_want_lines" "_law_want_lines" (defArgs s_law_want_lines) (defBody s_law_want_lines) (defScope s_law_want_lines) .none kV37 dc37 pm37 an37 cd37 ct37), sl37⟩) (e37 : PySem.W.codeIn K cd37 "_law_want_lines" = true) (k37 : PySem.W.keepIn K (.ref f37) = true)
    (a38 : PySem.W.nsIn K mainGlobals "_law_drawn_parts" = some (some (.ref f38))) (l38 : K.lookup f38 = some ⟨oc38, od38, .func (PySem.W.fnOf "_law_drawn_parts" "_law_drawn_parts" (defArgs s_law_drawn_parts) (defBody s_law_drawn_parts) (defScope s_law_drawn_parts) .none kV38 dc38 pm38 an38 cd38 ct38), sl38⟩) (e38 : PySem.W.codeIn K cd38 "_law_drawn_parts" = true) (k38 : PySem.W.keepIn K (.ref f38) = true)
    (a39 : PySem.W.nsIn K mainGlobals "_law_part_lines" = some (some (.ref f39))) (l39 : K.lookup f39 = some ⟨oc39, od39, .func (PySem.W.fnOf "_law_part_lines" "_law_part_lines" (defArgs s_law_part_lines) (defBody s_law_part_lines) (defScope s_law_part_lines) .none kV39 dc39 pm39 an39 cd39 ct39), sl39⟩) (e39 : PySem.W.codeIn K cd39 "_law_part_lines" = true) (k39 : PySem.W.keepIn K (.ref f39) = true)
    (a40 : PySem.W.nsIn K mainGlobals "_law_error" = some (some (.ref f40))) (l40 : K.lookup f40 = some ⟨oc40, od40, .func (PySem.W.fnOf "_law_error" "_law_error" (defArgs s_law_error) (defBody s_law_error) (defScope s_law_error) .none kV40 dc40 pm40 an40 cd40 ct40), sl40⟩) (e40 : PySem.W.codeIn K cd40 "_law_error" = true) (k40 : PySem.W.keepIn K (.ref f40) = true)
    (a41 : PySem.W.nsIn K mainGlobals "_law_bare_lines" = some (some (.ref f41))) (l41 : K.lookup f41 = some ⟨oc41, od41, .func (PySem.W.fnOf "_law_bare_lines" "_law_bare_lines" (defArgs s_law_bare_lines) (defBody s_law_bare_lines) (defScope s_law_bare_lines) .none kV41 dc41 pm41 an41 cd41 ct41), sl41⟩) (e41 : PySem.W.codeIn K cd41 "_law_bare_lines" = true) (k41 : PySem.W.keepIn K (.ref f41) = true)
    (a42 : PySem.W.nsIn K mainGlobals "_law_written" = some (some (.ref f42))) (l42 : K.lookup f42 = some ⟨oc42, od42, .func (PySem.W.fnOf "_law_written" "_law_written" (defArgs s_law_written) (defBody s_law_written) (defScope s_law_written) .none kV42 dc42 pm42 an42 cd42 ct42), sl42⟩) (e42 : PySem.W.codeIn K cd42 "_law_written" = true) (k42 : PySem.W.keepIn K (.ref f42) = true)
    (a43 : PySem.W.nsIn K mainGlobals "_law_shown" = some (some (.ref f43))) (l43 : K.lookup f43 = some ⟨oc43, od43, .func (PySem.W.fnOf "_law_shown" "_law_shown" (defArgs s_law_shown) (defBody s_law_shown) (defScope s_law_shown) .none kV43 dc43 pm43 an43 cd43 ct43), sl43⟩) (e43 : PySem.W.codeIn K cd43 "_law_shown" = true) (k43 : PySem.W.keepIn K (.ref f43) = true)
    (a44 : PySem.W.nsIn K mainGlobals "_law_smoothed" = some (some (.ref f44))) (l44 : K.lookup f44 = some ⟨oc44, od44, .func (PySem.W.fnOf "_law_smoothed" "_law_smoothed" (defArgs s_law_smoothed) (defBody s_law_smoothed) (defScope s_law_smoothed) .none kV44 dc44 pm44 an44 cd44 ct44), sl44⟩) (e44 : PySem.W.codeIn K cd44 "_law_smoothed" = true) (k44 : PySem.W.keepIn K (.ref f44) = true)
    (a45 : PySem.W.nsIn K mainGlobals "_law_by_hand" = some (some (.ref f45))) (l45 : K.lookup f45 = some ⟨oc45, od45, .func (PySem.W.fnOf "_law_by_hand" "_law_by_hand" (defArgs s_law_by_hand) (defBody s_law_by_hand) (defScope s_law_by_hand) .none kV45 dc45 pm45 an45 cd45 ct45), sl45⟩) (e45 : PySem.W.codeIn K cd45 "_law_by_hand" = true) (k45 : PySem.W.keepIn K (.ref f45) = true)
    (a46 : PySem.W.nsIn K mainGlobals "law" = some (some (.ref f46))) (l46 : K.lookup f46 = some ⟨oc46, od46, .func (PySem.W.fnOf "law" "law" (defArgs s_law) (defBody s_law) (defScope s_law) .none kV46 dc46 pm46 an46 cd46 ct46), sl46⟩) (e46 : PySem.W.codeIn K cd46 "law" = true) (k46 : PySem.W.keepIn K (.ref f46) = true)
    (a47 : PySem.W.findIn K (.ref C_Example) "__init__" = some (some (.ref f47))) (i47 : PySem.W.isFn K (.ref f47) = true) (l47 : K.lookup f47 = some ⟨oc47, od47, .func (PySem.W.fnOf "__init__" "Example.__init__" (defArgs s_Example_init) (defBody s_Example_init) (defScope s_Example_init) (.ref T47) (.ref KD47) dc47 pm47 an47 cd47 ct47), sl47⟩) (e47 : PySem.W.codeIn K cd47 "Example.__init__" = true) (k47 : PySem.W.keepIn K (.ref f47) = true)
    (t47 : K.lookup T47 = some ⟨Tc47, Td47, .seq #[.str "" tk47_0] Tn47, Ts47⟩) (w47_error : PySem.W.nsIn K KD47 "error" = some (some (.none))) (w47_line : PySem.W.nsIn K KD47 "line" = some (some (.int 1 kt47_line))) (w47_indent : PySem.W.nsIn K KD47 "indent" = some (some (.int 0 kt47_indent))) (w47_options : PySem.W.nsIn K KD47 "options" = some (some (.none)))
    (a48 : PySem.W.findIn K (.ref C_Comment) "__init__" = some (some (.ref f48))) (i48 : PySem.W.isFn K (.ref f48) = true) (l48 : K.lookup f48 = some ⟨oc48, od48, .func (PySem.W.fnOf "__init__" "Comment.__init__" (defArgs s_Comment_init) (defBody s_Comment_init) (defScope s_Comment_init) (.ref T48) (.ref KD48) dc48 pm48 an48 cd48 ct48), sl48⟩) (e48 : PySem.W.codeIn K cd48 "Comment.__init__" = true) (k48 : PySem.W.keepIn K (.ref f48) = true)
    (t48 : K.lookup T48 = some ⟨Tc48, Td48, .seq #[.str "" tk48_0] Tn48, Ts48⟩) (w48_line : PySem.W.nsIn K KD48 "line" = some (some (.int 1 kt48_line))) (w48_indent : PySem.W.nsIn K KD48 "indent" = some (some (.int 0 kt48_indent)))
    (aC_Example : PySem.W.nsIn K mainGlobals "Example" = some (some (.ref C_Example))) (pg_Example : PySem.W.plainGet K C_Example Str.empty = true) (hd_Example : PySem.W.hasDictIn K C_Example = true) (po_Example : PySem.W.plainOver K C_Example = true) (sa_Example : PySem.W.findIn K (.ref C_Example) "__setattr__" = some (some (.builtin "object.__setattr__"))) (mk_Example : PySem.W.makesIn K C_Example = true) (kc_Example : PySem.W.keepIn K (.ref C_Example) = true) (ha_Example : PySem.W.findIn K (.ref C_Example) "__class__" = some (some (.builtin "object.__class__"))) (hn_Example : PySem.W.specialIn K (.builtin "object.__class__") "__get__" = some (some (.builtin "getset_descriptor.__get__"))) (ht_Example : PySem.W.takesIn K (.builtin "object.__class__") = some true) (hm_Example : PySem.W.mroIn K C_Example (.type "object") = some true)
    (nf_Example_source : PySem.W.findIn K (.ref C_Example) "source" = some none)
    (nf_Example_want : PySem.W.findIn K (.ref C_Example) "want" = some none)
    (nf_Example_error : PySem.W.findIn K (.ref C_Example) "error" = some none)
    (nf_Example_line : PySem.W.findIn K (.ref C_Example) "line" = some none)
    (nf_Example_indent : PySem.W.findIn K (.ref C_Example) "indent" = some none)
    (nf_Example_options : PySem.W.findIn K (.ref C_Example) "options" = some none)
    (nf_Example_bare : PySem.W.findIn K (.ref C_Example) "bare" = some none)
    (aC_Comment : PySem.W.nsIn K mainGlobals "Comment" = some (some (.ref C_Comment))) (pg_Comment : PySem.W.plainGet K C_Comment Str.empty = true) (hd_Comment : PySem.W.hasDictIn K C_Comment = true) (po_Comment : PySem.W.plainOver K C_Comment = true) (sa_Comment : PySem.W.findIn K (.ref C_Comment) "__setattr__" = some (some (.builtin "object.__setattr__"))) (mk_Comment : PySem.W.makesIn K C_Comment = true) (kc_Comment : PySem.W.keepIn K (.ref C_Comment) = true) (ha_Comment : PySem.W.findIn K (.ref C_Comment) "__class__" = some (some (.builtin "object.__class__"))) (hn_Comment : PySem.W.specialIn K (.builtin "object.__class__") "__get__" = some (some (.builtin "getset_descriptor.__get__"))) (ht_Comment : PySem.W.takesIn K (.builtin "object.__class__") = some true) (hm_Comment : PySem.W.mroIn K C_Comment (.type "object") = some true)
    (nf_Comment_source : PySem.W.findIn K (.ref C_Comment) "source" = some none)
    (nf_Comment_want : PySem.W.findIn K (.ref C_Comment) "want" = some none)
    (nf_Comment_line : PySem.W.findIn K (.ref C_Comment) "line" = some none)
    (nf_Comment_indent : PySem.W.findIn K (.ref C_Comment) "indent" = some none)
    (y_AHEAD : PySem.W.nsIn K mainGlobals "AHEAD" = some (some (.int 4 t_AHEAD)))
    (y_BLANKS : PySem.W.nsIn K mainGlobals "BLANKS" = some (some (.str " \t" t_BLANKS)))
    (y_FURTHER : PySem.W.nsIn K mainGlobals "FURTHER" = some (some (.str "..." t_FURTHER)))
    (y_HEADERS : PySem.W.nsIn K mainGlobals "HEADERS" = some (some (.ref a_HEADERS))) (x_HEADERS : K.lookup a_HEADERS = some ⟨.type "tuple", ad_HEADERS, .seq #[.str "Traceback (most recent call last):" t_HEADERS0, .str "Traceback (innermost last):" t_HEADERS1] an_HEADERS, as_HEADERS⟩)
    (y_MARK : PySem.W.nsIn K mainGlobals "MARK" = some (some (.str "doctest:" t_MARK)))
    (y_PROMPT : PySem.W.nsIn K mainGlobals "PROMPT" = some (some (.str ">>>" t_PROMPT)))
    (y_TAB : PySem.W.nsIn K mainGlobals "TAB" = some (some (.int 8 t_TAB)))
    (z_all : PySem.W.nsIn K mainGlobals "all" = some none)
    (z_bool : PySem.W.nsIn K mainGlobals "bool" = some none)
    (z_dict : PySem.W.nsIn K mainGlobals "dict" = some none)
    (z_enumerate : PySem.W.nsIn K mainGlobals "enumerate" = some none)
    (z_int : PySem.W.nsIn K mainGlobals "int" = some none)
    (z_isinstance : PySem.W.nsIn K mainGlobals "isinstance" = some none)
    (z_len : PySem.W.nsIn K mainGlobals "len" = some none)
    (z_list : PySem.W.nsIn K mainGlobals "list" = some none)
    (z_max : PySem.W.nsIn K mainGlobals "max" = some none)
    (z_min : PySem.W.nsIn K mainGlobals "min" = some none)
    (z_range : PySem.W.nsIn K mainGlobals "range" = some none)
    (z_sorted : PySem.W.nsIn K mainGlobals "sorted" = some none)
    (z_str : PySem.W.nsIn K mainGlobals "str" = some none)
    (z_tuple : PySem.W.nsIn K mainGlobals "tuple" = some none)
    (z_zip : PySem.W.nsIn K mainGlobals "zip" = some none)
    (z_EC : PySem.W.subIn K (.ref C_Example) (.ref C_Comment) = some false)
    (z_EE : PySem.W.subIn K (.ref C_Example) (.ref C_Example) = some true)
    (z_iC : PySem.W.isClsIn K C_Comment = true)
    (z_tC : PySem.W.typeIn K (.ref C_Comment) = some (.type "type"))
    (z_Es : PySem.W.subIn K (.ref C_Example) (.type "str") = some false)
    (z_Cs : PySem.W.subIn K (.ref C_Comment) (.type "str") = some false)
    :
    ∃ fd : FuncData, (∀ (s : Shared) (v : Value), BindsTo s fd ⟨[v], []⟩ [("script", v)]) ∧ ∀ base : Heap, K.In base → base.Ns mainGlobals mg → FnOk l.prog w K mg base CX0 8 fa fd ["script"] (sp_law K) := by
  have e := hfa.symm.trans (PySem.W.mg_of X G a46)
  cases e
  have F0 : Fn K "kept_lines" s_kept_lines [] _ _ := Fn.mk' l0 e0 k0 (.inl ⟨rfl, rfl⟩)
  have F1 : Fn K "lines_of" s_lines_of [] _ _ := Fn.mk' l1 e1 k1 (.inl ⟨rfl, rfl⟩)
  have F2 : Fn K "fed" s_fed [] _ _ := Fn.mk' l2 e2 k2 (.inl ⟨rfl, rfl⟩)
  have F3 : Fn K "indent_of" s_indent_of [] _ _ := Fn.mk' l3 e3 k3 (.inl ⟨rfl, rfl⟩)
  have F4 : Fn K "is_blank" s_is_blank [] _ _ := Fn.mk' l4 e4 k4 (.inl ⟨rfl, rfl⟩)
  have F5 : Fn K "words_of" s_words_of [] _ _ := Fn.mk' l5 e5 k5 (.inl ⟨rfl, rfl⟩)
  have F6 : Fn K "begins" s_begins [] _ _ := Fn.mk' l6 e6 k6 (.inl ⟨rfl, rfl⟩)
  have F7 : Fn K "cuts_of" s_cuts_of [] _ _ := Fn.mk' l7 e7 k7 (.inl ⟨rfl, rfl⟩)
  have F8 : Fn K "behind_source" s_behind_source [] _ _ := Fn.mk' l8 e8 k8 (.inl ⟨rfl, rfl⟩)
  have F9 : Fn K "behind_expected" s_behind_expected [] _ _ := Fn.mk' l9 e9 k9 (.inl ⟨rfl, rfl⟩)
  have F10 : Fn K "refuse_wrong_lines" s_refuse_wrong_lines [] _ _ := Fn.mk' l10 e10 k10 (.inl ⟨rfl, rfl⟩)
  have F11 : Fn K "refuse_wrong_indents" s_refuse_wrong_indents [] _ _ := Fn.mk' l11 e11 k11 (.inl ⟨rfl, rfl⟩)
  have F12 : Fn K "require_flags" s_require_flags [] _ _ := Fn.mk' l12 e12 k12 (.inl ⟨rfl, rfl⟩)
  have F13 : Fn K "directive_of" s_directive_of [] _ _ := Fn.mk' l13 e13 k13 (.inl ⟨rfl, rfl⟩)
  have F14 : Fn K "directive_words" s_directive_words [] _ _ := Fn.mk' l14 e14 k14 (.inl ⟨rfl, rfl⟩)
  have F15 : Fn K "options_of" s_options_of [] _ _ := Fn.mk' l15 e15 k15 (.inl ⟨rfl, rfl⟩)
  have F16 : Fn K "bare_of" s_bare_of [] _ _ := Fn.mk' l16 e16 k16 (.inl ⟨rfl, rfl⟩)
  have F17 : Fn K "bare_line" s_bare_line [] _ _ := Fn.mk' l17 e17 k17 (.inl ⟨rfl, rfl⟩)
  have F18 : Fn K "is_remark" s_is_remark [] _ _ := Fn.mk' l18 e18 k18 (.inl ⟨rfl, rfl⟩)
  have F19 : Fn K "widened" s_widened [] _ _ := Fn.mk' l19 e19 k19 (.inl ⟨rfl, rfl⟩)
  have F20 : Fn K "levelled" s_levelled [] _ _ := Fn.mk' l20 e20 k20 (.inl ⟨rfl, rfl⟩)
  have F21 : Fn K "parsed" s_parsed [] _ _ := Fn.mk' l21 e21 k21 (.inl ⟨rfl, rfl⟩)
  have F22 : Fn K "piece_at" s_piece_at [] _ _ := Fn.mk' l22 e22 k22 (.inl ⟨rfl, rfl⟩)
  have F23 : Fn K "error_of" s_error_of [] _ _ := Fn.mk' l23 e23 k23 (.inl ⟨rfl, rfl⟩)
  have F24 : Fn K "is_word_sign" s_is_word_sign [] _ _ := Fn.mk' l24 e24 k24 (.inl ⟨rfl, rfl⟩)
  have F25 : Fn K "joined" s_joined [] _ _ := Fn.mk' l25 e25 k25 (.inl ⟨rfl, rfl⟩)
  have F26 : Fn K "written" s_written [] _ _ := Fn.mk' l26 e26 k26 (.inl ⟨rfl, rfl⟩)
  have F27 : Fn K "_law_draws" s_law_draws [] _ _ := Fn.mk' l27 e27 k27 (.inl ⟨rfl, rfl⟩)
  have F28 : Fn K "_law_mixed" s_law_mixed [] _ _ := Fn.mk' l28 e28 k28 (.inl ⟨rfl, rfl⟩)
  have F29 : Fn K "_law_take" s_law_take [] _ _ := Fn.mk' l29 e29 k29 (.inl ⟨rfl, rfl⟩)
  have F30 : Fn K "_law_same" s_law_same00 [] _ _ := Fn.mk' l30 e30 k30 (.inl ⟨rfl, rfl⟩)
  have F31 : Fn K "_law_same" s_law_same0 [] _ _ := Fn.mk' l31 e31 k31 (.inl ⟨rfl, rfl⟩)
  have F32 : Fn K "_law_same" s_law_same [] _ _ := Fn.mk' l32 e32 k32 (.inl ⟨rfl, rfl⟩)
  have F33 : Fn K "_law_pick" s_law_pick [] _ _ := Fn.mk' l33 e33 k33 (.inl ⟨rfl, rfl⟩)
  have F34 : Fn K "_law_blank_line" s_law_blank_line [] _ _ := Fn.mk' l34 e34 k34 (.inl ⟨rfl, rfl⟩)
  have F35 : Fn K "_law_text_line" s_law_text_line [] _ _ := Fn.mk' l35 e35 k35 (.inl ⟨rfl, rfl⟩)
  have F36 : Fn K "_law_source_lines" s_law_source_lines [] _ _ := Fn.mk' l36 e36 k36 (.inl ⟨rfl, rfl⟩)
  have F37 : Fn K "_law_want_lines" s_law_want_lines [] _ _ := Fn.mk' l37 e37 k37 (.inl ⟨rfl, rfl⟩)
  have F38 : Fn K "_law_drawn_parts" s_law_drawn_parts [] _ _ := Fn.mk' l38 e38 k38 (.inl ⟨rfl, rfl⟩)
  have F39 : Fn K "_law_part_lines" s_law_part_lines [] _ _ := Fn.mk' l39 e39 k39 (.inl ⟨rfl, rfl⟩)
  have F40 : Fn K "_law_error" s_law_error [] _ _ := Fn.mk' l40 e40 k40 (.inl ⟨rfl, rfl⟩)
  have F41 : Fn K "_law_bare_lines" s_law_bare_lines [] _ _ := Fn.mk' l41 e41 k41 (.inl ⟨rfl, rfl⟩)
  have F42 : Fn K "_law_written" s_law_written [] _ _ := Fn.mk' l42 e42 k42 (.inl ⟨rfl, rfl⟩)
  have F43 : Fn K "_law_shown" s_law_shown [] _ _ := Fn.mk' l43 e43 k43 (.inl ⟨rfl, rfl⟩)
  have F44 : Fn K "_law_smoothed" s_law_smoothed [] _ _ := Fn.mk' l44 e44 k44 (.inl ⟨rfl, rfl⟩)
  have F45 : Fn K "_law_by_hand" s_law_by_hand [] _ _ := Fn.mk' l45 e45 k45 (.inl ⟨rfl, rfl⟩)
  have F46 : Fn K "law" s_law [] _ _ := Fn.mk' l46 e46 k46 (.inl ⟨rfl, rfl⟩)
  have KW47 : ∀ q ∈ ([("error", .non), ("line", .int 1), ("indent", .int 0), ("options", .non)] : List (Str × V)), ∃ u, PySem.W.nsIn K KD47 q.1 = some (some u) ∧ RelV q.2 u := fun q hq => by
    simp only [List.mem_cons, List.not_mem_nil, or_false] at hq
    rcases hq with rfl | rfl | rfl | rfl
    · exact ⟨_, w47_error, rfl⟩
    · exact ⟨_, w47_line, ⟨_, rfl⟩⟩
    · exact ⟨_, w47_indent, ⟨_, rfl⟩⟩
    · exact ⟨_, w47_options, rfl⟩
  have F47 : FunD K "__init__" "Example.__init__" (defArgs s_Example_init) (defBody s_Example_init) (defScope s_Example_init) [.str ""] [("error", .non), ("line", .int 1), ("indent", .int 0), ("options", .non)] _ _ := ⟨⟨_, _, _, _, _, _, _, _, _, _, rfl, l47, e47, .inr ⟨by simp, T47, _, _, _, rfl, t47, rfl, (.cons ⟨_, rfl⟩ .nil)⟩, .inr ⟨KD47, rfl, KW47⟩⟩, k47⟩
  have KW48 : ∀ q ∈ ([("line", .int 1), ("indent", .int 0)] : List (Str × V)), ∃ u, PySem.W.nsIn K KD48 q.1 = some (some u) ∧ RelV q.2 u := fun q hq => by
    simp only [List.mem_cons, List.not_mem_nil, or_false] at hq
    rcases hq with rfl | rfl
    · exact ⟨_, w48_line, ⟨_, rfl⟩⟩
    · exact ⟨_, w48_indent, ⟨_, rfl⟩⟩
  have F48 : FunD K "__init__" "Comment.__init__" (defArgs s_Comment_init) (defBody s_Comment_init) (defScope s_Comment_init) [.str ""] [("line", .int 1), ("indent", .int 0)] _ _ := ⟨⟨_, _, _, _, _, _, _, _, _, _, rfl, l48, e48, .inr ⟨by simp, T48, _, _, _, rfl, t48, rfl, (.cons ⟨_, rfl⟩ .nil)⟩, .inr ⟨KD48, rfl, KW48⟩⟩, k48⟩
  have T_Example : Txt_Example K mg C_Example := ⟨⟨pg_Example, hd_Example, po_Example, sa_Example⟩, PySem.W.mg_of X G aC_Example, ha_Example, hn_Example, ht_Example, hm_Example, kit_self K C_Example, nf_Example_source, nf_Example_want, nf_Example_error, nf_Example_line, nf_Example_indent, nf_Example_options, nf_Example_bare⟩
  have T_Comment : Txt_Comment K mg C_Comment := ⟨⟨pg_Comment, hd_Comment, po_Comment, sa_Comment⟩, PySem.W.mg_of X G aC_Comment, ha_Comment, hn_Comment, ht_Comment, hm_Comment, kit_self K C_Comment, nf_Comment_source, nf_Comment_want, nf_Comment_line, nf_Comment_indent⟩
  have m_all : mg "all" = none := PySem.W.mg_none_of X G z_all
  have m_bool : mg "bool" = none := PySem.W.mg_none_of X G z_bool
  have m_dict : mg "dict" = none := PySem.W.mg_none_of X G z_dict
  have m_enumerate : mg "enumerate" = none := PySem.W.mg_none_of X G z_enumerate
  have m_int : mg "int" = none := PySem.W.mg_none_of X G z_int
  have m_isinstance : mg "isinstance" = none := PySem.W.mg_none_of X G z_isinstance
  have m_len : mg "len" = none := PySem.W.mg_none_of X G z_len
  have m_list : mg "list" = none := PySem.W.mg_none_of X G z_list
  have m_max : mg "max" = none := PySem.W.mg_none_of X G z_max
  have m_min : mg "min" = none := PySem.W.mg_none_of X G z_min
  have m_range : mg "range" = none := PySem.W.mg_none_of X G z_range
  have m_sorted : mg "sorted" = none := PySem.W.mg_none_of X G z_sorted
  have m_str : mg "str" = none := PySem.W.mg_none_of X G z_str
  have m_tuple : mg "tuple" = none := PySem.W.mg_none_of X G z_tuple
  have m_zip : mg "zip" = none := PySem.W.mg_none_of X G z_zip
  have c_AHEAD := PySem.W.mg_of X G y_AHEAD
  have c_BLANKS := PySem.W.mg_of X G y_BLANKS
  have c_FURTHER := PySem.W.mg_of X G y_FURTHER
  have c_HEADERS := PySem.W.mg_of X G y_HEADERS
  have q_HEADERS : ∀ H, SqT K H a_HEADERS (v_HEADERS.map V.str) := fun H => .inr ⟨_, _, _, x_HEADERS, rfl, rfl, by show 2 ≤ sizeLine; decide, (.cons ⟨_, rfl⟩ (.cons ⟨_, rfl⟩ .nil))⟩
  have c_MARK := PySem.W.mg_of X G y_MARK
  have c_PROMPT := PySem.W.mg_of X G y_PROMPT
  have c_TAB := PySem.W.mg_of X G y_TAB
  refine ⟨PySem.W.fnOf "law" "law" (defArgs s_law) (defBody s_law) (defScope s_law) .none kV46 dc46 pm46 an46 cd46 ct46, fun s v => .of_eq rfl, fun base _ _ => ?_⟩
  have O_kept_lines : Own l.prog w K mg base "kept_lines" 1 ["text"] [] (sp_kept_lines) := by
    exact ⟨_, _, [], ok_kept_lines F0, PySem.W.mg_of X G a0, F0.kp, F0.bindsN (ps := ["text"]) (fun _ _ _ _ _ _ us hl => match us, hl with | [_], _ => rfl), .nil⟩
  have O_fed : Own l.prog w K mg base "fed" 1 ["text"] [] (sp_fed) := by
    exact ⟨_, _, [], ok_fed F2, PySem.W.mg_of X G a2, F2.kp, F2.bindsN (ps := ["text"]) (fun _ _ _ _ _ _ us hl => match us, hl with | [_], _ => rfl), .nil⟩
  have O_indent_of : Own l.prog w K mg base "indent_of" 1 ["line"] [] (sp_indent_of) := by
    exact ⟨_, _, [], ok_indent_of F3 m_len, PySem.W.mg_of X G a3, F3.kp, F3.bindsN (ps := ["line"]) (fun _ _ _ _ _ _ us hl => match us, hl with | [_], _ => rfl), .nil⟩
  have O_is_blank : Own l.prog w K mg base "is_blank" 1 ["line"] [] (sp_is_blank) := by
    exact ⟨_, _, [], ok_is_blank F4 c_BLANKS, PySem.W.mg_of X G a4, F4.kp, F4.bindsN (ps := ["line"]) (fun _ _ _ _ _ _ us hl => match us, hl with | [_], _ => rfl), .nil⟩
  have O_words_of : Own l.prog w K mg base "words_of" 1 ["text"] [] (sp_words_of) := by
    exact ⟨_, _, [], ok_words_of F5, PySem.W.mg_of X G a5, F5.kp, F5.bindsN (ps := ["text"]) (fun _ _ _ _ _ _ us hl => match us, hl with | [_], _ => rfl), .nil⟩
  have O_begins : Own l.prog w K mg base "begins" 1 ["line", "prompt"] [] (sp_begins) := by
    exact ⟨_, _, [], ok_begins F6, PySem.W.mg_of X G a6, F6.kp, F6.bindsN (ps := ["line", "prompt"]) (fun _ _ _ _ _ _ us hl => match us, hl with | [_, _], _ => rfl), .nil⟩
  have O_refuse_wrong_indents : Own l.prog w K mg base "refuse_wrong_indents" 1 ["lines", "start", "end", "ahead"] [] (sp_refuse_wrong_indents) := by
    exact ⟨_, _, [], ok_refuse_wrong_indents F11 m_range, PySem.W.mg_of X G a11, F11.kp, F11.bindsN (ps := ["lines", "start", "end", "ahead"]) (fun _ _ _ _ _ _ us hl => match us, hl with | [_, _, _, _], _ => rfl), .nil⟩
  have O_require_flags : Own l.prog w K mg base "require_flags" 1 ["flags"] [] (sp_require_flags) := by
    exact ⟨_, _, [], ok_require_flags F12, PySem.W.mg_of X G a12, F12.kp, F12.bindsN (ps := ["flags"]) (fun _ _ _ _ _ _ us hl => match us, hl with | [_], _ => rfl), .nil⟩
  have O_directive_of : Own l.prog w K mg base "directive_of" 1 ["line"] [] (sp_directive_of) := by
    exact ⟨_, _, [], ok_directive_of F13 m_max c_BLANKS c_MARK, PySem.W.mg_of X G a13, F13.kp, F13.bindsN (ps := ["line"]) (fun _ _ _ _ _ _ us hl => match us, hl with | [_], _ => rfl), .nil⟩
  have O_widened : Own l.prog w K mg base "widened" 1 ["text"] [] (sp_widened) := by
    exact ⟨_, _, [], ok_widened F19 c_TAB, PySem.W.mg_of X G a19, F19.kp, F19.bindsN (ps := ["text"]) (fun _ _ _ _ _ _ us hl => match us, hl with | [_], _ => rfl), .nil⟩
  have O_is_word_sign : Own l.prog w K mg base "is_word_sign" 1 ["sign"] [] (sp_is_word_sign) := by
    exact ⟨_, _, [], ok_is_word_sign F24, PySem.W.mg_of X G a24, F24.kp, F24.bindsN (ps := ["sign"]) (fun _ _ _ _ _ _ us hl => match us, hl with | [_], _ => rfl), .nil⟩
  have O_law_draws : Own l.prog w K mg base "_law_draws" 1 ["script"] [] (sp_law_draws K) := by
    exact ⟨_, _, [], ok_law_draws F27, PySem.W.mg_of X G a27, F27.kp, F27.bindsN (ps := ["script"]) (fun _ _ _ _ _ _ us hl => match us, hl with | [_], _ => rfl), .nil⟩
  have O_law_mixed : Own l.prog w K mg base "_law_mixed" 1 ["seed", "k"] [] (sp_law_mixed) := by
    exact ⟨_, _, [], ok_law_mixed F28, PySem.W.mg_of X G a28, F28.kp, F28.bindsN (ps := ["seed", "k"]) (fun _ _ _ _ _ _ us hl => match us, hl with | [_, _], _ => rfl), .nil⟩
  have O_law_same00 : Own l.prog w K mg base "_law_same" 1 ["found", "due"] [] (sp_law_same00) := by
    exact ⟨_, _, [], ok_law_same00 F30 m_all m_bool m_int m_isinstance m_len m_list m_tuple m_zip, PySem.W.mg_of X G a30, F30.kp, F30.bindsN (ps := ["found", "due"]) (fun _ _ _ _ _ _ us hl => match us, hl with | [_, _], _ => rfl), .nil⟩
  have O_law_error : Own l.prog w K mg base "_law_error" 1 ["lines"] [] (sp_law_error) := by
    exact ⟨_, _, [], ok_law_error F40 m_len m_range, PySem.W.mg_of X G a40, F40.kp, F40.bindsN (ps := ["lines"]) (fun _ _ _ _ _ _ us hl => match us, hl with | [_], _ => rfl), .nil⟩
  have O_law_bare_lines : Own l.prog w K mg base "_law_bare_lines" 1 ["lines"] [] (sp_law_bare_lines) := by
    exact ⟨_, _, [], ok_law_bare_lines F41, PySem.W.mg_of X G a41, F41.kp, F41.bindsN (ps := ["lines"]) (fun _ _ _ _ _ _ us hl => match us, hl with | [_], _ => rfl), .nil⟩
  have O_law_shown : Own l.prog w K mg base "_law_shown" 1 ["piece"] [] (sp_law_shown C_Example C_Comment) := by
    exact ⟨_, _, [], ok_law_shown F43 T_Example T_Comment m_isinstance m_list m_sorted m_str z_EC z_EE z_iC z_tC z_Es z_Cs, PySem.W.mg_of X G a43, F43.kp, F43.bindsN (ps := ["piece"]) (fun _ _ _ _ _ _ us hl => match us, hl with | [_], _ => rfl), .nil⟩
  have O_law_smoothed : Own l.prog w K mg base "_law_smoothed" 1 ["text", "pieces"] [] (sp_law_smoothed K) := by
    exact ⟨_, _, [], ok_law_smoothed F44 m_int m_isinstance m_str, PySem.W.mg_of X G a44, F44.kp, F44.bindsN (ps := ["text", "pieces"]) (fun _ _ _ _ _ _ us hl => match us, hl with | [_, _], _ => rfl), .nil⟩
  have O_lines_of : Own l.prog w K mg base "lines_of" 2 ["text"] [] (sp_lines_of) := by
    exact ⟨_, _, [], ok_lines_of F1 O_kept_lines, PySem.W.mg_of X G a1, F1.kp, F1.bindsN (ps := ["text"]) (fun _ _ _ _ _ _ us hl => match us, hl with | [_], _ => rfl), .nil⟩
  have O_behind_source : Own l.prog w K mg base "behind_source" 2 ["lines", "at"] [] (sp_behind_source) := by
    exact ⟨_, _, [], ok_behind_source F8 O_begins m_len c_FURTHER, PySem.W.mg_of X G a8, F8.kp, F8.bindsN (ps := ["lines", "at"]) (fun _ _ _ _ _ _ us hl => match us, hl with | [_, _], _ => rfl), .nil⟩
  have O_behind_expected : Own l.prog w K mg base "behind_expected" 2 ["lines", "at"] [] (sp_behind_expected) := by
    exact ⟨_, _, [], ok_behind_expected F9 O_is_blank O_begins m_len c_PROMPT, PySem.W.mg_of X G a9, F9.kp, F9.bindsN (ps := ["lines", "at"]) (fun _ _ _ _ _ _ us hl => match us, hl with | [_, _], _ => rfl), .nil⟩
  have O_refuse_wrong_lines : Own l.prog w K mg base "refuse_wrong_lines" 2 ["lines", "cut"] [] (sp_refuse_wrong_lines) := by
    exact ⟨_, _, [], ok_refuse_wrong_lines F10 O_indent_of O_refuse_wrong_indents m_len m_range c_PROMPT, PySem.W.mg_of X G a10, F10.kp, F10.bindsN (ps := ["lines", "cut"]) (fun _ _ _ _ _ _ us hl => match us, hl with | [_, _], _ => rfl), .nil⟩
  have O_directive_words : Own l.prog w K mg base "directive_words" 2 ["line"] [] (sp_directive_words) := by
    exact ⟨_, _, [], ok_directive_words F14 O_words_of O_directive_of, PySem.W.mg_of X G a14, F14.kp, F14.bindsN (ps := ["line"]) (fun _ _ _ _ _ _ us hl => match us, hl with | [_], _ => rfl), .nil⟩
  have O_bare_line : Own l.prog w K mg base "bare_line" 2 ["line"] [] (sp_bare_line) := by
    exact ⟨_, _, [], ok_bare_line F17 O_directive_of c_BLANKS, PySem.W.mg_of X G a17, F17.kp, F17.bindsN (ps := ["line"]) (fun _ _ _ _ _ _ us hl => match us, hl with | [_], _ => rfl), .nil⟩
  have O_levelled : Own l.prog w K mg base "levelled" 2 ["text"] [] (sp_levelled) := by
    exact ⟨_, _, [], ok_levelled F20 O_widened O_is_blank O_indent_of m_min, PySem.W.mg_of X G a20, F20.kp, F20.bindsN (ps := ["text"]) (fun _ _ _ _ _ _ us hl => match us, hl with | [_], _ => rfl), .nil⟩
  have O_error_of : Own l.prog w K mg base "error_of" 2 ["want"] [] (sp_error_of) := by
    exact ⟨_, _, [], ok_error_of F23 O_kept_lines O_is_word_sign m_len m_range c_HEADERS q_HEADERS, PySem.W.mg_of X G a23, F23.kp, F23.bindsN (ps := ["want"]) (fun _ _ _ _ _ _ us hl => match us, hl with | [_], _ => rfl), .nil⟩
  have O_law_take : Own l.prog w K mg base "_law_take" 2 ["draws", "size"] [] (sp_law_take) := by
    exact ⟨_, _, [], ok_law_take F29 O_law_mixed m_len, PySem.W.mg_of X G a29, F29.kp, F29.bindsN (ps := ["draws", "size"]) (fun _ _ _ _ _ _ us hl => match us, hl with | [_, _], _ => rfl), .nil⟩
  have O_law_same0 : Own l.prog w K mg base "_law_same" 2 ["found", "due"] [] (sp_law_same0) := by
    exact ⟨_, _, [], ok_law_same0 F31 O_law_same00 m_all m_bool m_int m_isinstance m_len m_list m_tuple m_zip, PySem.W.mg_of X G a31, F31.kp, F31.bindsN (ps := ["found", "due"]) (fun _ _ _ _ _ _ us hl => match us, hl with | [_, _], _ => rfl), .nil⟩
  have O_Comment_init_K_indent : OwnG l.prog w K mg base "Comment" C_Comment 2 ["self", "source", "want", "line", "indent"] ["indent"] 2 (gPut 1 [.int 1]) (sp_Comment_init C_Comment) := by
    obtain ⟨its, mv, hb⟩ := F48.kbinds (ps := ["self", "source", "want", "line", "indent"]) 3 ["indent"] [("line", .int 1)] (fun vs _ mz zs => vs ++ (mz.take 1 ++ (zs ++ mz.drop 1))) (by simp) (by simp) (by simp) (fun r1 _ r3 r4 => vals_put 1 r1 r3 r4) (fun T D doc pm an cdv ct us its mv ws h1 h2 h3 h4 => match us, its, mv, ws, h1, h2, h3, h4 with | [_, _, _], [_], [_], [_], _, _, _, _ => ⟨_, rfl, ⟨_, _, _, _, _, _, rfl, rfl, rfl⟩⟩)
    exact ⟨_, _, _, ⟨mk_Comment, a48, i48, kc_Comment⟩, ok_Comment_init F48 T_Comment O_fed, hb, PySem.W.mg_of X G aC_Comment⟩
  have O_Comment_init : OwnC l.prog w K mg base "Comment" C_Comment 2 ["self", "source", "want", "line", "indent"] ["line", "indent"] 2 (sp_Comment_init C_Comment) := by
    exact ⟨_, _, _, ⟨mk_Comment, a48, i48, kc_Comment⟩, ok_Comment_init F48 T_Comment O_fed, ⟨fun s us ws X l1 l2 => match us, ws, l1, l2 with | [_, _, _], [_, _], _, _ => bnd_items X t48 rfl ⟨_, rfl, rfl⟩, fun r1 r2 => vals_app r1 r2⟩, PySem.W.mg_of X G aC_Comment⟩
  have O_cuts_of : Own l.prog w K mg base "cuts_of" 3 ["lines"] [] (sp_cuts_of) := by
    exact ⟨_, _, [], ok_cuts_of F7 O_begins O_behind_source O_behind_expected m_len c_PROMPT, PySem.W.mg_of X G a7, F7.kp, F7.bindsN (ps := ["lines"]) (fun _ _ _ _ _ _ us hl => match us, hl with | [_], _ => rfl), .nil⟩
  have O_options_of : Own l.prog w K mg base "options_of" 3 ["source", "number"] [] (sp_options_of) := by
    exact ⟨_, _, [], ok_options_of F15 O_lines_of O_directive_words, PySem.W.mg_of X G a15, F15.kp, F15.bindsN (ps := ["source", "number"]) (fun _ _ _ _ _ _ us hl => match us, hl with | [_, _], _ => rfl), .nil⟩
  have O_bare_of : Own l.prog w K mg base "bare_of" 3 ["source"] [] (sp_bare_of) := by
    exact ⟨_, _, [], ok_bare_of F16 O_lines_of O_bare_line, PySem.W.mg_of X G a16, F16.kp, F16.bindsN (ps := ["source"]) (fun _ _ _ _ _ _ us hl => match us, hl with | [_], _ => rfl), .nil⟩
  have O_is_remark : Own l.prog w K mg base "is_remark" 3 ["source"] [] (sp_is_remark) := by
    exact ⟨_, _, [], ok_is_remark F18 O_lines_of O_is_blank m_all c_BLANKS, PySem.W.mg_of X G a18, F18.kp, F18.bindsN (ps := ["source"]) (fun _ _ _ _ _ _ us hl => match us, hl with | [_], _ => rfl), .nil⟩
  have O_written : Own l.prog w K mg base "written" 3 ["piece"] [] (sp_written C_Example C_Comment) := by
    exact ⟨_, _, [], ok_written F26 T_Example T_Comment O_lines_of m_len m_zip c_FURTHER c_PROMPT, PySem.W.mg_of X G a26, F26.kp, F26.bindsN (ps := ["piece"]) (fun _ _ _ _ _ _ us hl => match us, hl with | [_], _ => rfl), .nil⟩
  have O_law_same : Own l.prog w K mg base "_law_same" 3 ["found", "due"] [] (sp_law_same) := by
    exact ⟨_, _, [], ok_law_same F32 O_law_same0 m_all m_bool m_int m_isinstance m_len m_list m_tuple m_zip, PySem.W.mg_of X G a32, F32.kp, F32.bindsN (ps := ["found", "due"]) (fun _ _ _ _ _ _ us hl => match us, hl with | [_, _], _ => rfl), .nil⟩
  have O_law_pick : Own l.prog w K mg base "_law_pick" 3 ["draws", "things"] [] (sp_law_pick) := by
    exact ⟨_, _, [], ok_law_pick F33 O_law_take m_len, PySem.W.mg_of X G a33, F33.kp, F33.bindsN (ps := ["draws", "things"]) (fun _ _ _ _ _ _ us hl => match us, hl with | [_, _], _ => rfl), .nil⟩
  have O_law_part_lines : Own l.prog w K mg base "_law_part_lines" 3 ["draws", "part"] [] (sp_law_part_lines) := by
    exact ⟨_, _, [], ok_law_part_lines F39 O_law_take m_enumerate m_int, PySem.W.mg_of X G a39, F39.kp, F39.bindsN (ps := ["draws", "part"]) (fun _ _ _ _ _ _ us hl => match us, hl with | [_, _], _ => rfl), .nil⟩
  have O_joined : Own l.prog w K mg base "joined" 4 ["pieces"] [] (sp_joined C_Example C_Comment) := by
    exact ⟨_, _, [], ok_joined F25 T_Example T_Comment O_written m_isinstance m_str z_Es z_Cs, PySem.W.mg_of X G a25, F25.kp, F25.bindsN (ps := ["pieces"]) (fun _ _ _ _ _ _ us hl => match us, hl with | [_], _ => rfl), .nil⟩
  have O_law_blank_line : Own l.prog w K mg base "_law_blank_line" 4 ["draws"] [] (sp_law_blank_line) := by
    exact ⟨_, _, [], ok_law_blank_line F34 O_law_pick, PySem.W.mg_of X G a34, F34.kp, F34.bindsN (ps := ["draws"]) (fun _ _ _ _ _ _ us hl => match us, hl with | [_], _ => rfl), .nil⟩
  have O_law_source_lines : Own l.prog w K mg base "_law_source_lines" 4 ["draws", "is_comment"] [] (sp_law_source_lines) := by
    exact ⟨_, _, [], ok_law_source_lines F36 O_law_take O_law_pick m_len m_range, PySem.W.mg_of X G a36, F36.kp, F36.bindsN (ps := ["draws", "is_comment"]) (fun _ _ _ _ _ _ us hl => match us, hl with | [_, _], _ => rfl), .nil⟩
  have O_law_want_lines : Own l.prog w K mg base "_law_want_lines" 4 ["draws"] [] (sp_law_want_lines) := by
    exact ⟨_, _, [], ok_law_want_lines F37 O_law_pick O_law_take m_int m_range, PySem.W.mg_of X G a37, F37.kp, F37.bindsN (ps := ["draws"]) (fun _ _ _ _ _ _ us hl => match us, hl with | [_], _ => rfl), .nil⟩
  have O_law_written : Own l.prog w K mg base "_law_written" 4 ["draws", "parts", "shift"] [] (sp_law_written) := by
    exact ⟨_, _, [], ok_law_written F42 O_law_part_lines O_law_take O_law_error O_law_bare_lines m_int m_len m_min m_zip, PySem.W.mg_of X G a42, F42.kp, F42.bindsN (ps := ["draws", "parts", "shift"]) (fun _ _ _ _ _ _ us hl => match us, hl with | [_, _, _], _ => rfl), .nil⟩
  have O_Example_init_K_line_indent : OwnG l.prog w K mg base "Example" C_Example 4 ["self", "source", "want", "error", "line", "indent", "options"] ["line", "indent"] 2 (gPut 1 [.non, .non]) (sp_Example_init C_Example) := by
    obtain ⟨its, mv, hb⟩ := F47.kbinds (ps := ["self", "source", "want", "error", "line", "indent", "options"]) 3 ["line", "indent"] [("error", .non), ("options", .non)] (fun vs _ mz zs => vs ++ (mz.take 1 ++ (zs ++ mz.drop 1))) (by simp) (by simp) (by simp) (fun r1 _ r3 r4 => vals_put 1 r1 r3 r4) (fun T D doc pm an cdv ct us its mv ws h1 h2 h3 h4 => match us, its, mv, ws, h1, h2, h3, h4 with | [_, _, _], [_], [_, _], [_, _], _, _, _, _ => ⟨_, rfl, ⟨_, _, _, _, _, _, rfl, rfl, ⟨_, _, _, _, _, _, rfl, rfl, rfl⟩⟩⟩)
    exact ⟨_, _, _, ⟨mk_Example, a47, i47, kc_Example⟩, ok_Example_init F47 T_Example O_require_flags O_fed O_bare_of m_dict, hb, PySem.W.mg_of X G aC_Example⟩
  have O_Example_init : OwnC l.prog w K mg base "Example" C_Example 4 ["self", "source", "want", "error", "line", "indent", "options"] ["error", "line", "indent", "options"] 2 (sp_Example_init C_Example) := by
    exact ⟨_, _, _, ⟨mk_Example, a47, i47, kc_Example⟩, ok_Example_init F47 T_Example O_require_flags O_fed O_bare_of m_dict, ⟨fun s us ws X l1 l2 => match us, ws, l1, l2 with | [_, _, _], [_, _, _, _], _, _ => bnd_items X t47 rfl ⟨_, rfl, rfl⟩, fun r1 r2 => vals_app r1 r2⟩, PySem.W.mg_of X G aC_Example⟩
  have O_law_text_line : Own l.prog w K mg base "_law_text_line" 5 ["draws"] [] (sp_law_text_line) := by
    exact ⟨_, _, [], ok_law_text_line F35 O_law_take O_law_blank_line O_law_pick, PySem.W.mg_of X G a35, F35.kp, F35.bindsN (ps := ["draws"]) (fun _ _ _ _ _ _ us hl => match us, hl with | [_], _ => rfl), .nil⟩
  have O_piece_at : Own l.prog w K mg base "piece_at" 6 ["lines", "cut"] [] (sp_piece_at C_Example C_Comment) := by
    exact ⟨_, _, [], ok_piece_at F22 T_Example T_Comment O_refuse_wrong_lines O_indent_of O_options_of O_is_remark O_Example_init O_error_of O_Comment_init c_AHEAD, PySem.W.mg_of X G a22, F22.kp, F22.bindsN (ps := ["lines", "cut"]) (fun _ _ _ _ _ _ us hl => match us, hl with | [_, _], _ => rfl), .nil⟩
  have O_law_drawn_parts : Own l.prog w K mg base "_law_drawn_parts" 6 ["draws", "most"] [] (sp_law_drawn_parts) := by
    exact ⟨_, _, [], ok_law_drawn_parts F38 O_law_take O_law_text_line O_law_blank_line O_law_source_lines O_law_pick O_law_want_lines m_int m_range, PySem.W.mg_of X G a38, F38.kp, F38.bindsN (ps := ["draws", "most"]) (fun _ _ _ _ _ _ us hl => match us, hl with | [_, _], _ => rfl), .nil⟩
  have O_law_by_hand : Own l.prog w K mg base "_law_by_hand" 6 ["draws"] [] (sp_law_by_hand C_Example C_Comment) := by
    exact ⟨_, _, [], ok_law_by_hand F45 T_Example T_Comment O_law_take O_law_pick O_Example_init_K_line_indent O_Comment_init_K_indent m_range, PySem.W.mg_of X G a45, F45.kp, F45.bindsN (ps := ["draws"]) (fun _ _ _ _ _ _ us hl => match us, hl with | [_], _ => rfl), .nil⟩
  have O_parsed : Own l.prog w K mg base "parsed" 7 ["text"] [] (sp_parsed C_Example C_Comment) := by
    exact ⟨_, _, [], ok_parsed F21 T_Example T_Comment O_levelled O_kept_lines O_lines_of O_cuts_of O_piece_at m_len, PySem.W.mg_of X G a21, F21.kp, F21.bindsN (ps := ["text"]) (fun _ _ _ _ _ _ us hl => match us, hl with | [_], _ => rfl), .nil⟩
  exact ok_law F46 T_Example T_Comment O_law_draws O_law_written O_law_drawn_parts O_law_pick O_law_take O_parsed O_joined O_law_smoothed O_levelled O_law_same O_law_shown O_law_by_hand m_len m_range m_tuple z_Es z_Cs
end Pq
open PySem PySem.W PyProof.Rows
set_option maxRecDepth 100000 in
set_option maxHeartbeats 0 in
theorem PySem.Challenge.cw_promptyard_k78_whole_pieces_joined_holds : PySem.Challenge.rw_promptyard_k78_whole_pieces_joined.Holds := by
  w_on; o_law; k_head; (case hw => w_witness2)
  k_fill
  refine L2.walk_of (l := PySem.Challenge.rw_promptyard_k78_whole_pieces_joined) (n := 63) (k := 8) (x := "script") (CX := fun _ => L2.CX0) (sp := fun w => Pq.sp_law _) rfl (by decide) rfl ⟨rfl, by decide, by decide⟩ (fun w h Y => PySem.W.kIn_of Y) ?F (fun _ _ a ns hl _ hS => ⟨a, ns, rfl, hS, hl, fun _ => rfl⟩) (fun _ _ _ _ _ h => h)
  case F =>
    intro w mg fa h KX G hmg
    refine' Pq.all_mk KX G hmg ?a0 ?l0 ?e0 ?k0 ?a1 ?l1 ?e1 ?k1 ?a2 ?l2 ?e2 ?k2 ?a3 ?l3 ?e3 ?k3 ?a4 ?l4 ?e4 ?k4 ?a5 ?l5 ?e5 ?k5 ?a6 ?l6 ?e6 ?k6 ?a7 ?l7 ?e7 ?k7 ?a8 ?l8 ?e8 ?k8 ?a9 ?l9 ?e9 ?k9 ?a10 ?l10 ?e10 ?k10 ?a11 ?l11 ?e11 ?k11 ?a12 ?l12 ?e12 ?k12 ?a13 ?l13 ?e13 ?k13 ?a14 ?l14 ?e14 ?k14 ?a15 ?l15 ?e15 ?k15 ?a16 ?l16 ?e16 ?k16 ?a17 ?l17 ?e17 ?k17 ?a18 ?l18 ?e18 ?k18 ?a19 ?l19 ?e19 ?k19 ?a20 ?l20 ?e20 ?k20 ?a21 ?l21 ?e21 ?k21 ?a22 ?l22 ?e22 ?k22 ?a23 ?l23 ?e23 ?k23 ?a24 ?l24 ?e24 ?k24 ?a25 ?l25 ?e25 ?k25 ?a26 ?l26 ?e26 ?k26 ?a27 ?l27 ?e27 ?k27 ?a28 ?l28 ?e28 ?k28 ?a29 ?l29 ?e29 ?k29 ?a30 ?l30 ?e30 ?k30 ?a31 ?l31 ?e31 ?k31 ?a32 ?l32 ?e32 ?k32 ?a33 ?l33 ?e33 ?k33 ?a34 ?l34 ?e34 ?k34 ?a35 ?l35 ?e35 ?k35 ?a36 ?l36 ?e36 ?k36 ?a37 ?l37 ?e37 ?k37 ?a38 ?l38 ?e38 ?k38 ?a39 ?l39 ?e39 ?k39 ?a40 ?l40 ?e40 ?k40 ?a41 ?l41 ?e41 ?k41 ?a42 ?l42 ?e42 ?k42 ?a43 ?l43 ?e43 ?k43 ?a44 ?l44 ?e44 ?k44 ?a45 ?l45 ?e45 ?k45 ?a46 ?l46 ?e46 ?k46 ?a47 ?i47 ?l47 ?e47 ?k47 ?t47 ?w47_error ?w47_line ?w47_indent ?w47_options ?a48 ?i48 ?l48 ?e48 ?k48 ?t48 ?w48_line ?w48_indent ?aC_Example ?pg_Example ?hd_Example ?po_Example ?sa_Example ?mk_Example ?kc_Example ?ha_Example ?hn_Example ?ht_Example ?hm_Example ?nf_Example_source ?nf_Example_want ?nf_Example_error ?nf_Example_line ?nf_Example_indent ?nf_Example_options ?nf_Example_bare ?aC_Comment ?pg_Comment ?hd_Comment ?po_Comment ?sa_Comment ?mk_Comment ?kc_Comment ?ha_Comment ?hn_Comment ?ht_Comment ?hm_Comment ?nf_Comment_source ?nf_Comment_want ?nf_Comment_line ?nf_Comment_indent ?y_AHEAD ?y_BLANKS ?y_FURTHER ?y_HEADERS ?x_HEADERS ?y_MARK ?y_PROMPT ?y_TAB ?z_all ?z_bool ?z_dict ?z_enumerate ?z_int ?z_isinstance ?z_len ?z_list ?z_max ?z_min ?z_range ?z_sorted ?z_str ?z_tuple ?z_zip ?z_EC ?z_EE ?z_iC ?z_tC ?z_Es ?z_Cs
    (case aC_Example => k_is)
    (case aC_Comment => k_is)
    (case a0 => k_is)
    (case l0 => k_is)
    (case e0 => k_is)
    (case k0 => k_is)
    (case a1 => k_is)
    (case l1 => k_is)
    (case e1 => k_is)
    (case k1 => k_is)
    (case a2 => k_is)
    (case l2 => k_is)
    (case e2 => k_is)
    (case k2 => k_is)
    (case a3 => k_is)
    (case l3 => k_is)
    (case e3 => k_is)
    (case k3 => k_is)
    (case a4 => k_is)
    (case l4 => k_is)
    (case e4 => k_is)
    (case k4 => k_is)
    (case a5 => k_is)
    (case l5 => k_is)
    (case e5 => k_is)
    (case k5 => k_is)
    (case a6 => k_is)
    (case l6 => k_is)
    (case e6 => k_is)
    (case k6 => k_is)
    (case a7 => k_is)
    (case l7 => k_is)
    (case e7 => k_is)
    (case k7 => k_is)
    (case a8 => k_is)
    (case l8 => k_is)
    (case e8 => k_is)
    (case k8 => k_is)
    (case a9 => k_is)
    (case l9 => k_is)
    (case e9 => k_is)
    (case k9 => k_is)
    (case a10 => k_is)
    (case l10 => k_is)
    (case e10 => k_is)
    (case k10 => k_is)
    (case a11 => k_is)
    (case l11 => k_is)
    (case e11 => k_is)
    (case k11 => k_is)
    (case a12 => k_is)
    (case l12 => k_is)
    (case e12 => k_is)
    (case k12 => k_is)
    (case a13 => k_is)
    (case l13 => k_is)
    (case e13 => k_is)
    (case k13 => k_is)
    (case a14 => k_is)
    (case l14 => k_is)
    (case e14 => k_is)
    (case k14 => k_is)
    (case a15 => k_is)
    (case l15 => k_is)
    (case e15 => k_is)
    (case k15 => k_is)
    (case a16 => k_is)
    (case l16 => k_is)
    (case e16 => k_is)
    (case k16 => k_is)
    (case a17 => k_is)
    (case l17 => k_is)
    (case e17 => k_is)
    (case k17 => k_is)
    (case a18 => k_is)
    (case l18 => k_is)
    (case e18 => k_is)
    (case k18 => k_is)
    (case a19 => k_is)
    (case l19 => k_is)
    (case e19 => k_is)
    (case k19 => k_is)
    (case a20 => k_is)
    (case l20 => k_is)
    (case e20 => k_is)
    (case k20 => k_is)
    (case a21 => k_is)
    (case l21 => k_is)
    (case e21 => k_is)
    (case k21 => k_is)
    (case a22 => k_is)
    (case l22 => k_is)
    (case e22 => k_is)
    (case k22 => k_is)
    (case a23 => k_is)
    (case l23 => k_is)
    (case e23 => k_is)
    (case k23 => k_is)
    (case a24 => k_is)
    (case l24 => k_is)
    (case e24 => k_is)
    (case k24 => k_is)
    (case a25 => k_is)
    (case l25 => k_is)
    (case e25 => k_is)
    (case k25 => k_is)
    (case a26 => k_is)
    (case l26 => k_is)
    (case e26 => k_is)
    (case k26 => k_is)
    (case a27 => k_is)
    (case l27 => k_is)
    (case e27 => k_is)
    (case k27 => k_is)
    (case a28 => k_is)
    (case l28 => k_is)
    (case e28 => k_is)
    (case k28 => k_is)
    (case a29 => k_is)
    (case l29 => k_is)
    (case e29 => k_is)
    (case k29 => k_is)
    (case a30 => k_is)
    (case l30 => k_is)
    (case e30 => k_is)
    (case k30 => k_is)
    (case a31 => k_is)
    (case l31 => k_is)
    (case e31 => k_is)
    (case k31 => k_is)
    (case a32 => k_is)
    (case l32 => k_is)
    (case e32 => k_is)
    (case k32 => k_is)
    (case a33 => k_is)
    (case l33 => k_is)
    (case e33 => k_is)
    (case k33 => k_is)
    (case a34 => k_is)
    (case l34 => k_is)
    (case e34 => k_is)
    (case k34 => k_is)
    (case a35 => k_is)
    (case l35 => k_is)
    (case e35 => k_is)
    (case k35 => k_is)
    (case a36 => k_is)
    (case l36 => k_is)
    (case e36 => k_is)
    (case k36 => k_is)
    (case a37 => k_is)
    (case l37 => k_is)
    (case e37 => k_is)
    (case k37 => k_is)
    (case a38 => k_is)
    (case l38 => k_is)
    (case e38 => k_is)
    (case k38 => k_is)
    (case a39 => k_is)
    (case l39 => k_is)
    (case e39 => k_is)
    (case k39 => k_is)
    (case a40 => k_is)
    (case l40 => k_is)
    (case e40 => k_is)
    (case k40 => k_is)
    (case a41 => k_is)
    (case l41 => k_is)
    (case e41 => k_is)
    (case k41 => k_is)
    (case a42 => k_is)
    (case l42 => k_is)
    (case e42 => k_is)
    (case k42 => k_is)
    (case a43 => k_is)
    (case l43 => k_is)
    (case e43 => k_is)
    (case k43 => k_is)
    (case a44 => k_is)
    (case l44 => k_is)
    (case e44 => k_is)
    (case k44 => k_is)
    (case a45 => k_is)
    (case l45 => k_is)
    (case e45 => k_is)
    (case k45 => k_is)
    (case a46 => k_is)
    (case l46 => k_is)
    (case e46 => k_is)
    (case k46 => k_is)
    (case a47 => k_is)
    (case i47 => k_is)
    (case l47 => k_is)
    (case e47 => k_is)
    (case k47 => k_is)
    (case t47 => k_is)
    (case w47_error => k_is)
    (case w47_line => k_is)
    (case w47_indent => k_is)
    (case w47_options => k_is)
    (case a48 => k_is)
    (case i48 => k_is)
    (case l48 => k_is)
    (case e48 => k_is)
    (case k48 => k_is)
    (case t48 => k_is)
    (case w48_line => k_is)
    (case w48_indent => k_is)
    (case pg_Example => k_is)
    (case hd_Example => k_is)
    (case po_Example => k_is)
    (case sa_Example => k_is)
    (case mk_Example => k_is)
    (case kc_Example => k_is)
    (case ha_Example => k_is)
    (case hn_Example => k_is)
    (case ht_Example => k_is)
    (case hm_Example => k_is)
    (case nf_Example_source => k_is)
    (case nf_Example_want => k_is)
    (case nf_Example_error => k_is)
    (case nf_Example_line => k_is)
    (case nf_Example_indent => k_is)
    (case nf_Example_options => k_is)
    (case nf_Example_bare => k_is)
    (case pg_Comment => k_is)
    (case hd_Comment => k_is)
    (case po_Comment => k_is)
    (case sa_Comment => k_is)
    (case mk_Comment => k_is)
    (case kc_Comment => k_is)
    (case ha_Comment => k_is)
    (case hn_Comment => k_is)
    (case ht_Comment => k_is)
    (case hm_Comment => k_is)
    (case nf_Comment_source => k_is)
    (case nf_Comment_want => k_is)
    (case nf_Comment_line => k_is)
    (case nf_Comment_indent => k_is)
    (case y_AHEAD => k_is)
    (case y_BLANKS => k_is)
    (case y_FURTHER => k_is)
    (case y_HEADERS => k_is)
    (case x_HEADERS => k_is)
    (case y_MARK => k_is)
    (case y_PROMPT => k_is)
    (case y_TAB => k_is)
    (case z_all => k_is)
    (case z_bool => k_is)
    (case z_dict => k_is)
    (case z_enumerate => k_is)
    (case z_int => k_is)
    (case z_isinstance => k_is)
    (case z_len => k_is)
    (case z_list => k_is)
    (case z_max => k_is)
    (case z_min => k_is)
    (case z_range => k_is)
    (case z_sorted => k_is)
    (case z_str => k_is)
    (case z_tuple => k_is)
    (case z_zip => k_is)
    (case z_EC => first | rfl | k_is)
    (case z_EE => first | rfl | k_is)
    (case z_iC => first | rfl | k_is)
    (case z_tC => first | rfl | k_is)
    (case z_Es => first | rfl | k_is)
    (case z_Cs => first | rfl | k_is)

