import PyProof.Rows.All
import Wide.All
import OpenK.AllK
import Wide.FinOn
import HandS.FStr
import HandS.ForMost
import HandS.Flow
import HandS.Defaults
import HandS.Style
import HandS.IsInst
import HandS.StrMore
import HandS.ReplaceList
import HandS.Deep
import HandS.Conv
import HandS.More
import PyProof.ToksMono
import HandS.ExpandTabs
import HandS.Codes
import HandS.SortKw
import KE.KMinKey
import KE.GoesMore
import KE.KUnpackStar
import HandS.List
import HandS.MakeKwOnly
import HandS.TryOnly
import HandS.ListItems
import HandS.Zip
import KE.SortData
import KE.KIsAll
import KE.KExcIs
import HandS.ExcInit
import HandS.ExcField
import HandS.ExcIs
import HandS.Lambda
import HandS.CallLocal
import HandS.EndOwn
import KE.KNestM
import HandS.DictComp
import KE.KDictList
import PyProof.Rows.StrIntSpec
import PyProof.Rows.StrInSeq3
import PyProof.FString3
import PySem.Challenge.RW_promptyard_k53_summaries_of_many
set_option Elab.async false
set_option linter.all false
set_option maxRecDepth 100000
namespace Pq
open PySem L2 TL PyProof.Rows
def top (i : Nat) : Stmt := PySem.Challenge.pw_promptyard_k53_summaries_of_many.main.body.getD i (.Pass ⟨0, 0, 0, 0⟩)
-- def held at top 2
abbrev s_held : Stmt := top 2
theorem sc_held : FnScope ["thing", "key", "part"] ["thing"] (defScope s_held) := ⟨rfl, rfl, rfl, by decide +kernel, rfl, by decide +kernel, by decide +kernel⟩
-- cells ['thing']
-- def is_flag at top 17
abbrev s_is_flag : Stmt := top 17
theorem sc_is_flag : FnScope ["thing"] ["thing"] (defScope s_is_flag) := ⟨rfl, rfl, rfl, by decide +kernel, rfl, by decide +kernel, by decide +kernel⟩
-- cells []
-- def require_flags at top 18
abbrev s_require_flags : Stmt := top 18
theorem sc_require_flags : FnScope ["flags", "thing"] ["flags"] (defScope s_require_flags) := ⟨rfl, rfl, rfl, by decide +kernel, rfl, by decide +kernel, by decide +kernel⟩
-- cells []
-- def in_force at top 19
abbrev s_in_force : Stmt := top 19
theorem sc_in_force : FnScope ["flags", "options", "flag"] ["flags", "options"] (defScope s_in_force) := ⟨rfl, rfl, rfl, by decide +kernel, rfl, by decide +kernel, by decide +kernel⟩
-- cells ['flags', 'options']
-- def is_blank at top 25
abbrev s_is_blank : Stmt := top 25
theorem sc_is_blank : FnScope ["line"] ["line"] (defScope s_is_blank) := ⟨rfl, rfl, rfl, by decide +kernel, rfl, by decide +kernel, by decide +kernel⟩
-- cells []
-- def is_mark at top 26
abbrev s_is_mark : Stmt := top 26
theorem sc_is_mark : FnScope ["line"] ["line"] (defScope s_is_mark) := ⟨rfl, rfl, rfl, by decide +kernel, rfl, by decide +kernel, by decide +kernel⟩
-- cells []
-- def marks_emptied at top 27
abbrev s_marks_emptied : Stmt := top 27
theorem sc_marks_emptied : FnScope ["want", "line"] ["want"] (defScope s_marks_emptied) := ⟨rfl, rfl, rfl, by decide +kernel, rfl, by decide +kernel, by decide +kernel⟩
-- cells []
-- def blanks_emptied at top 28
abbrev s_blanks_emptied : Stmt := top 28
theorem sc_blanks_emptied : FnScope ["got", "line"] ["got"] (defScope s_blanks_emptied) := ⟨rfl, rfl, rfl, by decide +kernel, rfl, by decide +kernel, by decide +kernel⟩
-- cells []
-- def words_of at top 29
abbrev s_words_of : Stmt := top 29
theorem sc_words_of : FnScope ["text", "spaced", "word"] ["text"] (defScope s_words_of) := ⟨rfl, rfl, rfl, by decide +kernel, rfl, by decide +kernel, by decide +kernel⟩
-- cells []
-- def words_joined at top 30
abbrev s_words_joined : Stmt := top 30
theorem sc_words_joined : FnScope ["text"] ["text"] (defScope s_words_joined) := ⟨rfl, rfl, rfl, by decide +kernel, rfl, by decide +kernel, by decide +kernel⟩
-- cells []
-- def has_pieces at top 31
abbrev s_has_pieces : Stmt := top 31
theorem sc_has_pieces : FnScope ["pieces", "got", "at", "end", "piece"] ["pieces", "got"] (defScope s_has_pieces) := ⟨rfl, rfl, rfl, by decide +kernel, rfl, by decide +kernel, by decide +kernel⟩
-- cells []
-- def lets_by at top 33
abbrev s_lets_by : Stmt := top 33
theorem sc_lets_by : FnScope ["want", "got", "flags"] ["want", "got", "flags"] (defScope s_lets_by) := ⟨rfl, rfl, rfl, by decide +kernel, rfl, by decide +kernel, by decide +kernel⟩
-- cells []
-- def error_lets_by at top 34
abbrev s_error_lets_by : Stmt := top 34
theorem sc_error_lets_by : FnScope ["want", "got", "flags"] ["want", "got", "flags"] (defScope s_error_lets_by) := ⟨rfl, rfl, rfl, by decide +kernel, rfl, by decide +kernel, by decide +kernel⟩
-- cells []
-- def detail_free at top 35
abbrev s_detail_free : Stmt := top 35
theorem sc_detail_free : FnScope ["text", "name"] ["text"] (defScope s_detail_free) := ⟨rfl, rfl, rfl, by decide +kernel, rfl, by decide +kernel, by decide +kernel⟩
-- cells []
-- def indented at top 36
abbrev s_indented : Stmt := top 36
theorem sc_indented : FnScope ["text", "line"] ["text"] (defScope s_indented) := ⟨rfl, rfl, rfl, by decide +kernel, rfl, by decide +kernel, by decide +kernel⟩
-- cells []
-- def told at top 37
abbrev s_told : Stmt := top 37
theorem sc_told : FnScope ["head", "text"] ["head", "text"] (defScope s_told) := ⟨rfl, rfl, rfl, by decide +kernel, rfl, by decide +kernel, by decide +kernel⟩
-- cells []
-- def blanks_marked at top 38
abbrev s_blanks_marked : Stmt := top 38
theorem sc_blanks_marked : FnScope ["got", "lines", "rest", "line"] ["got"] (defScope s_blanks_marked) := ⟨rfl, rfl, rfl, by decide +kernel, rfl, by decide +kernel, by decide +kernel⟩
-- cells []
-- def difference_text at top 39
abbrev s_difference_text : Stmt := top 39
theorem sc_difference_text : FnScope ["want", "got", "flags", "shown"] ["want", "got", "flags"] (defScope s_difference_text) := ⟨rfl, rfl, rfl, by decide +kernel, rfl, by decide +kernel, by decide +kernel⟩
-- cells []
-- def kept_lines at top 41
abbrev s_kept_lines : Stmt := top 41
theorem sc_kept_lines : FnScope ["text", "lines", "rest", "kept", "line"] ["text"] (defScope s_kept_lines) := ⟨rfl, rfl, rfl, by decide +kernel, rfl, by decide +kernel, by decide +kernel⟩
-- cells []
-- def lines_of at top 42
abbrev s_lines_of : Stmt := top 42
theorem sc_lines_of : FnScope ["text", "line"] ["text"] (defScope s_lines_of) := ⟨rfl, rfl, rfl, by decide +kernel, rfl, by decide +kernel, by decide +kernel⟩
-- cells []
-- def fed at top 43
abbrev s_fed : Stmt := top 43
theorem sc_fed : FnScope ["text"] ["text"] (defScope s_fed) := ⟨rfl, rfl, rfl, by decide +kernel, rfl, by decide +kernel, by decide +kernel⟩
-- cells []
-- def is_value at top 45
abbrev s_is_value : Stmt := top 45
theorem sc_is_value : FnScope ["thing", "part"] ["thing"] (defScope s_is_value) := ⟨rfl, rfl, rfl, by decide +kernel, rfl, by decide +kernel, by decide +kernel⟩
-- cells []
-- def is_text at top 46
abbrev s_is_text : Stmt := top 46
theorem sc_is_text : FnScope ["thing"] ["thing"] (defScope s_is_text) := ⟨rfl, rfl, rfl, by decide +kernel, rfl, by decide +kernel, by decide +kernel⟩
-- cells []
-- def is_name at top 47
abbrev s_is_name : Stmt := top 47
theorem sc_is_name : FnScope ["thing"] ["thing"] (defScope s_is_name) := ⟨rfl, rfl, rfl, by decide +kernel, rfl, by decide +kernel, by decide +kernel⟩
-- cells []
-- def is_dotted at top 48
abbrev s_is_dotted : Stmt := top 48
theorem sc_is_dotted : FnScope ["thing", "part"] ["thing"] (defScope s_is_dotted) := ⟨rfl, rfl, rfl, by decide +kernel, rfl, by decide +kernel, by decide +kernel⟩
-- cells []
-- def is_names at top 49
abbrev s_is_names : Stmt := top 49
theorem sc_is_names : FnScope ["thing", "key"] ["thing"] (defScope s_is_names) := ⟨rfl, rfl, rfl, by decide +kernel, rfl, by decide +kernel, by decide +kernel⟩
-- cells ['thing']
-- def value_copy at top 50
abbrev s_value_copy : Stmt := top 50
theorem sc_value_copy : FnScope ["value", "part"] ["value"] (defScope s_value_copy) := ⟨rfl, rfl, rfl, by decide +kernel, rfl, by decide +kernel, by decide +kernel⟩
-- cells []
-- def names_copy at top 51
abbrev s_names_copy : Stmt := top 51
theorem sc_names_copy : FnScope ["names", "name"] ["names"] (defScope s_names_copy) := ⟨rfl, rfl, rfl, by decide +kernel, rfl, by decide +kernel, by decide +kernel⟩
-- cells ['names']
-- def held_names at top 52
abbrev s_held_names : Stmt := top 52
theorem sc_held_names : FnScope ["names"] ["names"] (defScope s_held_names) := ⟨rfl, rfl, rfl, by decide +kernel, rfl, by decide +kernel, by decide +kernel⟩
-- cells []
-- def fits at top 56
abbrev s_fits : Stmt := top 56
theorem sc_fits : FnScope ["thing", "kind"] ["thing", "kind"] (defScope s_fits) := ⟨rfl, rfl, rfl, by decide +kernel, rfl, by decide +kernel, by decide +kernel⟩
-- cells []
-- def is_deed at top 57
abbrev s_is_deed : Stmt := top 57
theorem sc_is_deed : FnScope ["thing", "shape", "part", "kind"] ["thing"] (defScope s_is_deed) := ⟨rfl, rfl, rfl, by decide +kernel, rfl, by decide +kernel, by decide +kernel⟩
-- cells []
-- def is_act at top 58
abbrev s_is_act : Stmt := top 58
theorem sc_is_act : FnScope ["thing", "part"] ["thing"] (defScope s_is_act) := ⟨rfl, rfl, rfl, by decide +kernel, rfl, by decide +kernel, by decide +kernel⟩
-- cells []
-- def is_play at top 59
abbrev s_is_play : Stmt := top 59
theorem sc_is_play : FnScope ["thing", "key"] ["thing"] (defScope s_is_play) := ⟨rfl, rfl, rfl, by decide +kernel, rfl, by decide +kernel, by decide +kernel⟩
-- cells ['thing']
-- def require_play at top 60
abbrev s_require_play : Stmt := top 60
theorem sc_require_play : FnScope ["thing"] ["thing"] (defScope s_require_play) := ⟨rfl, rfl, rfl, by decide +kernel, rfl, by decide +kernel, by decide +kernel⟩
-- cells []
-- def played at top 61
abbrev s_played : Stmt := top 61
theorem sc_played : FnScope ["play", "source", "names", "printed", "deed", "text", "error"] ["play", "source", "names"] (defScope s_played) := ⟨rfl, rfl, rfl, by decide +kernel, rfl, by decide +kernel, by decide +kernel⟩
-- cells []
-- def done at top 62
abbrev s_done : Stmt := top 62
theorem sc_done : FnScope ["deed", "names", "word", "told", "asked"] ["deed", "names"] (defScope s_done) := ⟨rfl, rfl, rfl, by decide +kernel, rfl, by decide +kernel, by decide +kernel⟩
-- cells []
-- def shown at top 63
abbrev s_shown : Stmt := top 63
theorem sc_shown : FnScope ["value"] ["value"] (defScope s_shown) := ⟨rfl, rfl, rfl, by decide +kernel, rfl, by decide +kernel, by decide +kernel⟩
-- cells []
-- def error_text at top 64
abbrev s_error_text : Stmt := top 64
theorem sc_error_text : FnScope ["error", "kind", "text"] ["error"] (defScope s_error_text) := ⟨rfl, rfl, rfl, by decide +kernel, rfl, by decide +kernel, by decide +kernel⟩
-- cells []
-- def traceback_text at top 65
abbrev s_traceback_text : Stmt := top 65
theorem sc_traceback_text : FnScope ["error"] ["error"] (defScope s_traceback_text) := ⟨rfl, rfl, rfl, by decide +kernel, rfl, by decide +kernel, by decide +kernel⟩
-- cells []
-- def ended at top 66
abbrev s_ended : Stmt := top 66
theorem sc_ended : FnScope ["printed"] ["printed"] (defScope s_ended) := ⟨rfl, rfl, rfl, by decide +kernel, rfl, by decide +kernel, by decide +kernel⟩
-- cells []
-- def outcome_of at top 72
abbrev s_outcome_of : Stmt := top 72
theorem sc_outcome_of : FnScope ["example", "play", "names", "flags", "printed", "error", "got"] ["example", "play", "names", "flags"] (defScope s_outcome_of) := ⟨rfl, rfl, rfl, by decide +kernel, rfl, by decide +kernel, by decide +kernel⟩
-- cells []
-- def word_of at top 73
abbrev s_word_of : Stmt := top 73
theorem sc_word_of : FnScope ["example", "got", "error", "flags", "is_well"] ["example", "got", "error", "flags"] (defScope s_word_of) := ⟨rfl, rfl, rfl, by decide +kernel, rfl, by decide +kernel, by decide +kernel⟩
-- cells []
-- def has_failed at top 74
abbrev s_has_failed : Stmt := top 74
theorem sc_has_failed : FnScope ["word"] ["word"] (defScope s_has_failed) := ⟨rfl, rfl, rfl, by decide +kernel, rfl, by decide +kernel, by decide +kernel⟩
-- cells []
-- def got_in_all at top 75
abbrev s_got_in_all : Stmt := top 75
theorem sc_got_in_all : FnScope ["got", "error"] ["got", "error"] (defScope s_got_in_all) := ⟨rfl, rfl, rfl, by decide +kernel, rfl, by decide +kernel, by decide +kernel⟩
-- cells []
-- def report_of at top 78
abbrev s_report_of : Stmt := top 78
theorem sc_report_of : FnScope ["test", "example", "outcome", "flags", "verbose", "start"] ["test", "example", "outcome", "flags", "verbose"] (defScope s_report_of) := ⟨rfl, rfl, rfl, by decide +kernel, rfl, by decide +kernel, by decide +kernel⟩
-- cells []
-- def start_report at top 79
abbrev s_start_report : Stmt := top 79
theorem sc_start_report : FnScope ["example", "expecting"] ["example"] (defScope s_start_report) := ⟨rfl, rfl, rfl, by decide +kernel, rfl, by decide +kernel, by decide +kernel⟩
-- cells []
-- def failure_report at top 80
abbrev s_failure_report : Stmt := top 80
theorem sc_failure_report : FnScope ["test", "example", "outcome", "flags", "word", "got", "error", "told"] ["test", "example", "outcome", "flags"] (defScope s_failure_report) := ⟨rfl, rfl, rfl, by decide +kernel, rfl, by decide +kernel, by decide +kernel⟩
-- cells []
-- def place_of at top 81
abbrev s_place_of : Stmt := top 81
theorem sc_place_of : FnScope ["test", "example", "line"] ["test", "example"] (defScope s_place_of) := ⟨rfl, rfl, rfl, by decide +kernel, rfl, by decide +kernel, by decide +kernel⟩
-- cells []
-- def counts_of at top 86
abbrev s_counts_of : Stmt := top 86
theorem sc_counts_of : FnScope ["words", "word"] ["words"] (defScope s_counts_of) := ⟨rfl, rfl, rfl, by decide +kernel, rfl, by decide +kernel, by decide +kernel⟩
-- cells []
-- def summed at top 87
abbrev s_summed : Stmt := top 87
theorem sc_summed : FnScope ["many", "place", "counts"] ["many"] (defScope s_summed) := ⟨rfl, rfl, rfl, by decide +kernel, rfl, by decide +kernel, by decide +kernel⟩
-- cells ['many']
-- def number_of at top 88
abbrev s_number_of : Stmt := top 88
theorem sc_number_of : FnScope ["number", "word"] ["number", "word"] (defScope s_number_of) := ⟨rfl, rfl, rfl, by decide +kernel, rfl, by decide +kernel, by decide +kernel⟩
-- cells []
-- def summary_of at top 89
abbrev s_summary_of : Stmt := top 89
theorem sc_summary_of : FnScope ["counts", "verbose", "lines", "line"] ["counts", "verbose"] (defScope s_summary_of) := ⟨rfl, rfl, rfl, by decide +kernel, rfl, by decide +kernel, by decide +kernel⟩
-- cells []
-- def untried_lines at top 90
abbrev s_untried_lines : Stmt := top 90
theorem sc_untried_lines : FnScope ["counts", "items", "name"] ["counts"] (defScope s_untried_lines) := ⟨rfl, rfl, rfl, by decide +kernel, rfl, by decide +kernel, by decide +kernel⟩
-- cells ['counts']
-- def passed_lines at top 91
abbrev s_passed_lines : Stmt := top 91
theorem sc_passed_lines : FnScope ["counts", "items", "name"] ["counts"] (defScope s_passed_lines) := ⟨rfl, rfl, rfl, by decide +kernel, rfl, by decide +kernel, by decide +kernel⟩
-- cells ['counts']
-- def passed_line at top 92
abbrev s_passed_line : Stmt := top 92
theorem sc_passed_line : FnScope ["name", "tried", "word"] ["name", "tried"] (defScope s_passed_line) := ⟨rfl, rfl, rfl, by decide +kernel, rfl, by decide +kernel, by decide +kernel⟩
-- cells []
-- def failed_lines at top 93
abbrev s_failed_lines : Stmt := top 93
theorem sc_failed_lines : FnScope ["counts", "items", "lines", "name"] ["counts"] (defScope s_failed_lines) := ⟨rfl, rfl, rfl, by decide +kernel, rfl, by decide +kernel, by decide +kernel⟩
-- cells ['counts']
-- def failed_line at top 94
abbrev s_failed_line : Stmt := top 94
theorem sc_failed_line : FnScope ["name", "counts"] ["name", "counts"] (defScope s_failed_line) := ⟨rfl, rfl, rfl, by decide +kernel, rfl, by decide +kernel, by decide +kernel⟩
-- cells []
-- def headed at top 95
abbrev s_headed : Stmt := top 95
theorem sc_headed : FnScope ["head", "lines"] ["head", "lines"] (defScope s_headed) := ⟨rfl, rfl, rfl, by decide +kernel, rfl, by decide +kernel, by decide +kernel⟩
-- cells []
-- def total_lines at top 96
abbrev s_total_lines : Stmt := top 96
theorem sc_total_lines : FnScope ["counts", "failed", "tried", "_", "how_many"] ["counts"] (defScope s_total_lines) := ⟨rfl, rfl, rfl, by decide +kernel, rfl, by decide +kernel, by decide +kernel⟩
-- cells []
-- def last_lines at top 97
abbrev s_last_lines : Stmt := top 97
theorem sc_last_lines : FnScope ["counts", "verbose", "failed", "_", "skipped", "skips"] ["counts", "verbose"] (defScope s_last_lines) := ⟨rfl, rfl, rfl, by decide +kernel, rfl, by decide +kernel, by decide +kernel⟩
-- cells []
-- def directive_of at top 100
abbrev s_directive_of : Stmt := top 100
theorem sc_directive_of : FnScope ["line", "at"] ["line"] (defScope s_directive_of) := ⟨rfl, rfl, rfl, by decide +kernel, rfl, by decide +kernel, by decide +kernel⟩
-- cells []
-- def bare_of at top 101
abbrev s_bare_of : Stmt := top 101
theorem sc_bare_of : FnScope ["source", "line"] ["source"] (defScope s_bare_of) := ⟨rfl, rfl, rfl, by decide +kernel, rfl, by decide +kernel, by decide +kernel⟩
-- cells []
-- def bare_line at top 102
abbrev s_bare_line : Stmt := top 102
theorem sc_bare_line : FnScope ["line"] ["line"] (defScope s_bare_line) := ⟨rfl, rfl, rfl, by decide +kernel, rfl, by decide +kernel, by decide +kernel⟩
-- cells []
-- def _law_draws at top 109
abbrev s_law_draws : Stmt := top 109
theorem sc_law_draws : FnScope ["script", "item"] ["script"] (defScope s_law_draws) := ⟨rfl, rfl, rfl, by decide +kernel, rfl, by decide +kernel, by decide +kernel⟩
-- cells []
-- def _law_mixed at top 110
abbrev s_law_mixed : Stmt := top 110
theorem sc_law_mixed : FnScope ["seed", "k", "first"] ["seed", "k"] (defScope s_law_mixed) := ⟨rfl, rfl, rfl, by decide +kernel, rfl, by decide +kernel, by decide +kernel⟩
-- cells []
-- def _law_take at top 111
abbrev s_law_take : Stmt := top 111
theorem sc_law_take : FnScope ["draws", "size", "found", "seed", "reach"] ["draws", "size"] (defScope s_law_take) := ⟨rfl, rfl, rfl, by decide +kernel, rfl, by decide +kernel, by decide +kernel⟩
-- cells []
-- def _law_same at top 112
abbrev s_law_same : Stmt := top 112
theorem sc_law_same : FnScope ["found", "due", "key", "one", "two"] ["found", "due"] (defScope s_law_same) := ⟨rfl, rfl, rfl, by decide +kernel, rfl, by decide +kernel, by decide +kernel⟩
-- cells ['due', 'found']
-- def _law_pick at top 113
abbrev s_law_pick : Stmt := top 113
theorem sc_law_pick : FnScope ["draws", "some"] ["draws", "some"] (defScope s_law_pick) := ⟨rfl, rfl, rfl, by decide +kernel, rfl, by decide +kernel, by decide +kernel⟩
-- cells []
-- def _law_totals at top 114
abbrev s_law_totals : Stmt := top 114
theorem sc_law_totals : FnScope ["items", "name", "counts", "before", "one", "two"] ["items", "name", "counts"] (defScope s_law_totals) := ⟨rfl, rfl, rfl, by decide +kernel, rfl, by decide +kernel, by decide +kernel⟩
-- cells []
-- def _law_sum at top 115
abbrev s_law_sum : Stmt := top 115
theorem sc_law_sum : FnScope ["items", "at", "name"] ["items"] (defScope s_law_sum) := ⟨rfl, rfl, rfl, by decide +kernel, rfl, by decide +kernel, by decide +kernel⟩
-- cells ['items']
-- def _law_many at top 116
abbrev s_law_many : Stmt := top 116
theorem sc_law_many : FnScope ["number", "word"] ["number", "word"] (defScope s_law_many) := ⟨rfl, rfl, rfl, by decide +kernel, rfl, by decide +kernel, by decide +kernel⟩
-- cells []
-- def _law_summary at top 117
abbrev s_law_summary : Stmt := top 117
theorem sc_law_summary : FnScope ["items", "loud", "idle", "good", "bad", "rows", "name", "tried", "counts", "row", "at"] ["items", "loud"] (defScope s_law_summary) := ⟨rfl, rfl, rfl, by decide +kernel, rfl, by decide +kernel, by decide +kernel⟩
-- cells ['items', 'name']
-- def _law_last_rows at top 118
abbrev s_law_last_rows : Stmt := top 118
theorem sc_law_last_rows : FnScope ["items", "loud", "rows", "failed", "tried", "skipped", "rest"] ["items", "loud"] (defScope s_law_last_rows) := ⟨rfl, rfl, rfl, by decide +kernel, rfl, by decide +kernel, by decide +kernel⟩
-- cells []
-- def law at top 119
abbrev s_law : Stmt := top 119
theorem sc_law : FnScope ["script", "draws", "runner", "items", "k", "name", "sizes", "good", "bad", "left", "some", "found", "due", "j"] ["script"] (defScope s_law) := ⟨rfl, rfl, rfl, by decide +kernel, rfl, by decide +kernel, by decide +kernel⟩
-- cells ['draws', 'sizes']
-- def require_flags0 at top 18
abbrev s_require_flags0 : Stmt := top 18
theorem sc_require_flags0 : FnScope ["flags", "thing"] ["flags"] (defScope s_require_flags0) := ⟨rfl, rfl, rfl, by decide +kernel, rfl, by decide +kernel, by decide +kernel⟩
-- cells []
-- def held0 at top 2
abbrev s_held0 : Stmt := top 2
theorem sc_held0 : FnScope ["thing", "key", "part"] ["thing"] (defScope s_held0) := ⟨rfl, rfl, rfl, by decide +kernel, rfl, by decide +kernel, by decide +kernel⟩
-- cells ['thing']
-- def Example_init at top 104
abbrev s_Example_init : Stmt := inClass (top 104) 0
theorem sc_Example_init : FnScope ["self", "source", "want", "error", "line", "indent", "options", "told"] ["self", "source", "want", "error", "line", "indent", "options"] (defScope s_Example_init) := ⟨rfl, rfl, rfl, by decide +kernel, rfl, by decide +kernel, by decide +kernel⟩
-- cells []
-- def Test_init at top 106
abbrev s_Test_init : Stmt := inClass (top 106) 0
theorem sc_Test_init : FnScope ["self", "examples", "names", "name", "file", "line"] ["self", "examples", "names", "name", "file", "line"] (defScope s_Test_init) := ⟨rfl, rfl, rfl, by decide +kernel, rfl, by decide +kernel, by decide +kernel⟩
-- cells []
-- def Runner_init at top 107
abbrev s_Runner_init : Stmt := inClass (top 107) 0
theorem sc_Runner_init : FnScope ["self", "play", "flags"] ["self", "play", "flags"] (defScope s_Runner_init) := ⟨rfl, rfl, rfl, by decide +kernel, rfl, by decide +kernel, by decide +kernel⟩
-- cells []
-- def Test_examples at top 106
abbrev s_Test_examples : Stmt := inClass (top 106) 1
theorem sc_Test_examples : FnScope ["self"] ["self"] (defScope s_Test_examples) := ⟨rfl, rfl, rfl, by decide +kernel, rfl, by decide +kernel, by decide +kernel⟩
-- cells []
-- def Test_tried at top 106
abbrev s_Test_tried : Stmt := inClass (top 106) 4
theorem sc_Test_tried : FnScope ["self", "example", "play", "flags"] ["self", "example", "play", "flags"] (defScope s_Test_tried) := ⟨rfl, rfl, rfl, by decide +kernel, rfl, by decide +kernel, by decide +kernel⟩
-- cells []
-- def Test_forget at top 106
abbrev s_Test_forget : Stmt := inClass (top 106) 5
theorem sc_Test_forget : FnScope ["self"] ["self"] (defScope s_Test_forget) := ⟨rfl, rfl, rfl, by decide +kernel, rfl, by decide +kernel, by decide +kernel⟩
-- cells []
-- def Runner_run at top 107
abbrev s_Runner_run : Stmt := inClass (top 107) 1
theorem sc_Runner_run : FnScope ["self", "test", "verbose", "clear", "words", "reports", "failed", "flags", "example", "quiet", "outcome"] ["self", "test", "verbose", "clear"] (defScope s_Runner_run) := ⟨rfl, rfl, rfl, by decide +kernel, rfl, by decide +kernel, by decide +kernel⟩
-- cells []
-- def Runner_ended_run at top 107
abbrev s_Runner_ended_run : Stmt := inClass (top 107) 3
theorem sc_Runner_ended_run : FnScope ["self", "test", "words", "clear", "counts"] ["self", "test", "words", "clear"] (defScope s_Runner_ended_run) := ⟨rfl, rfl, rfl, by decide +kernel, rfl, by decide +kernel, by decide +kernel⟩
-- cells []
-- def Runner_tally at top 107
abbrev s_Runner_tally : Stmt := inClass (top 107) 4
theorem sc_Runner_tally : FnScope ["self", "name", "counts"] ["self", "name", "counts"] (defScope s_Runner_tally) := ⟨rfl, rfl, rfl, by decide +kernel, rfl, by decide +kernel, by decide +kernel⟩
-- cells []
-- def Runner_total at top 107
abbrev s_Runner_total : Stmt := inClass (top 107) 5
theorem sc_Runner_total : FnScope ["self"] ["self"] (defScope s_Runner_total) := ⟨rfl, rfl, rfl, by decide +kernel, rfl, by decide +kernel, by decide +kernel⟩
-- cells []
-- def Runner_counts at top 107
abbrev s_Runner_counts : Stmt := inClass (top 107) 6
theorem sc_Runner_counts : FnScope ["self", "name"] ["self"] (defScope s_Runner_counts) := ⟨rfl, rfl, rfl, by decide +kernel, rfl, by decide +kernel, by decide +kernel⟩
-- cells ['self']
-- def Runner_summary at top 107
abbrev s_Runner_summary : Stmt := inClass (top 107) 8
theorem sc_Runner_summary : FnScope ["self", "verbose"] ["self", "verbose"] (defScope s_Runner_summary) := ⟨rfl, rfl, rfl, by decide +kernel, rfl, by decide +kernel, by decide +kernel⟩
-- cells []
def v_FLAGS : List Str := ["DONT_ACCEPT_TRUE_FOR_1", "DONT_ACCEPT_BLANKLINE", "NORMALIZE_WHITESPACE", "ELLIPSIS", "SKIP", "IGNORE_EXCEPTION_DETAIL", "REPORT_ONLY_FIRST_FAILURE", "FAIL_FAST"]
def v_TRUTHS (z : Str) : V := if z = "1\n" then .str "True\n" else if z = "0\n" then .str "False\n" else .non
def v_SHAPES (b : Nat → Addr) (z : Str) : V := if z = "print" then .ref (b 0) else if z = "show" then .ref (b 1) else if z = "set" then .ref (b 2) else if z = "copy" then .ref (b 3) else if z = "delete" then .ref (b 4) else if z = "raise" then .ref (b 5) else .non
def tv_SHAPES : List (List Str) := [["text"], ["name"], ["name", "value"], ["name", "name"], ["name"], ["kind of error", "text"]]
theorem dict_SHAPES {K : PySem.W.Frag} {a : Addr} {n : Nat} {h0 h1 h2 h3 h4 h5 : Int} {t0 t1 t2 t3 t4 t5 : Tok} {b : Nat → Addr} (l : K.lookup a = some ⟨.type "dict", none, .dict #[⟨h0, .str "print" t0, .ref (b 0)⟩, ⟨h1, .str "show" t1, .ref (b 1)⟩, ⟨h2, .str "set" t2, .ref (b 2)⟩, ⟨h3, .str "copy" t3, .ref (b 3)⟩, ⟨h4, .str "delete" t4, .ref (b 4)⟩, ⟨h5, .str "raise" t5, .ref (b 5)⟩] n, #[]⟩) :
    ∀ z : Str, ∃ r, PySem.W.nsIn K a z = some r ∧ RelV (v_SHAPES b z) (r.getD .none) := by
  intro z
  unfold PySem.W.nsIn v_SHAPES
  rw [l]
  by_cases e0 : z = "print"
  · subst e0
    exact ⟨some (.ref (b 0)), rfl, rfl⟩
  rw [if_neg e0]
  have n0 : (("print" : Str) == z) = false := beq_eq_false_iff_ne.mpr fun e => e0 e.symm
  by_cases e1 : z = "show"
  · subst e1
    exact ⟨some (.ref (b 1)), rfl, rfl⟩
  rw [if_neg e1]
  have n1 : (("show" : Str) == z) = false := beq_eq_false_iff_ne.mpr fun e => e1 e.symm
  by_cases e2 : z = "set"
  · subst e2
    exact ⟨some (.ref (b 2)), rfl, rfl⟩
  rw [if_neg e2]
  have n2 : (("set" : Str) == z) = false := beq_eq_false_iff_ne.mpr fun e => e2 e.symm
  by_cases e3 : z = "copy"
  · subst e3
    exact ⟨some (.ref (b 3)), rfl, rfl⟩
  rw [if_neg e3]
  have n3 : (("copy" : Str) == z) = false := beq_eq_false_iff_ne.mpr fun e => e3 e.symm
  by_cases e4 : z = "delete"
  · subst e4
    exact ⟨some (.ref (b 4)), rfl, rfl⟩
  rw [if_neg e4]
  have n4 : (("delete" : Str) == z) = false := beq_eq_false_iff_ne.mpr fun e => e4 e.symm
  by_cases e5 : z = "raise"
  · subst e5
    exact ⟨some (.ref (b 5)), rfl, rfl⟩
  rw [if_neg e5]
  have n5 : (("raise" : Str) == z) = false := beq_eq_false_iff_ne.mpr fun e => e5 e.symm
  refine ⟨none, ?_, rfl⟩
  simp only [List.find?, Value.isStr, n0, n1, n2, n3, n4, n5]
  rfl

/-! ### small words -/
theorem same_new {H : Hp} {p : Addr} {o : HO} (h : H p = none) : Same H (upd H p o) := fun b x e => by
  rw [upd_ne (ne_of_none e h)]
  exact e
theorem line_of {n : Nat} (h : n ≤ 1000000) : n ≤ sizeLine := Nat.le_trans h (by decide)
/-- a def of the text, as its callers see it -/
structure Own (P : Program) (w : World) (K : PySem.W.Frag) (mg : Str → Option Value) (base : Heap) (x : Str) (k : Nat) (ps : List Str) (dvs : List V) (sp : Sp) : Prop where
  ex : ∃ f fd ds, FnOk P w K mg base CX0 k f fd ps sp ∧ mg x = some (.ref f) ∧ PySem.W.keepIn K (.ref f) = true ∧ Binds K fd ps ds ∧ Vals dvs ds
section
variable {X : Cx} {x : Str} {k : Nat} {ps : List Str} {dvs : List V} {sp : Sp} {e : Expr} {es : List Expr} {t : TA} {p pos : Pos}
theorem Own.mk' {P : Program} {w : World} {K : PySem.W.Frag} {mg : Str → Option Value} {base : Heap} {f : Addr} {fd : FuncData} {ds : List Value} (a : FnOk P w K mg base CX0 k f fd ps sp) (b : mg x = some (.ref f)) (c : PySem.W.keepIn K (.ref f) = true) (d : Binds K fd ps ds) (v : Vals dvs ds) : Own P w K mg base x k ps dvs sp := ⟨_, _, _, a, b, c, d, v⟩
theorem pe_own (O : Own X.prog X.w X.K X.mg X.base x k ps dvs sp) (hr : Room k X.A) (hg : Gl X x) (ha : PA X (e :: es) t) (hdb : (x == ("__debug__" : Str)) = false := by decide) (he : starEach (e :: es) X.env = (false, eval e X.env) :: starEach es X.env := by rfl) (hpl : (backTo pos (starEach es X.env)).any (·.1) = false := by rfl) :
    PE X (.Call (.Name x p) (e :: es) [] pos) (tCall sp dvs E0 t) := by
  obtain ⟨f, fd, ds, F, hm, hk, hb, hd⟩ := O.ex
  exact pe_call F hr hg hm hk hb hd pass0 ha hdb he hpl
theorem pe_own0 (O : Own X.prog X.w X.K X.mg X.base x k ps dvs sp) (hr : Room k X.A) (hg : Gl X x) (hdb : (x == ("__debug__" : Str)) = false := by decide) :
    PE X (.Call (.Name x p) [] [] pos) (tCall sp dvs E0 tNil) := by
  obtain ⟨f, fd, ds, F, hm, hk, hb, hd⟩ := O.ex
  exact pe_call0 F hr hg hm hk hb hd pass0 hdb
/-- a statement, a word about what stands behind it, the rest -/
def tCut (t u : TS) : TS := fun D σ H => ∃ Mid : L2.St → Hp → Prop, t { D with nx := Mid } σ H ∧ ∀ σ' H', Mid σ' H' → u D σ' H'
theorem pss_cut {st : Stmt} {rest : List Stmt} {t u : TS} (h1 : PS X st t) (h2 : PSs X rest u) : PSs X (st :: rest) (tCut t u) := by
  refine ⟨fun pins s σ H D I h => ?_⟩
  obtain ⟨Mid, hm, hu⟩ := h
  refine wpAny_execs_cons (thn (h1.run pins s σ H { D with nx := Mid } I hm) fun f s1 q => ?_)
  cases f with
  | next =>
    obtain ⟨σ', H', I', q⟩ := q
    exact h2.run pins s1 σ' H' D I' (hu σ' H' q)
  | ret v => exact q
  | brk => exact q
  | cont => exact q
end
theorem int_at {ns : List Int} {i : Nat} {x : V} (h : (ns.map V.int)[i]? = some x) : ∃ z, x = V.int z := by
  rw [List.getElem?_map] at h
  cases e : ns[i]? with
  | none =>
    rw [e] at h
    cases h
  | some z =>
    rw [e] at h
    exact ⟨z, (Option.some.inj h).symm⟩

/-! ### steps that want one token out: the judgements of the layer from states with a token -/
section
variable {α : Type} {M : Model} {A : Around} {s : Shared}
theorem thnK {t : Sem α} {Q Q' : α → Shared → Prop} {E : Value → Shared → Prop} (hk : 1 ≤ s.toks) (h : wpAny M A t Q E s) (hQ : ∀ a s', 1 ≤ s'.toks → Q a s' → Q' a s') : wpAny M A t Q' E s :=
  wpAny_mono (PySem.wpAny_toks_of hk h) (fun a s' x => hQ a s' x.1 x.2) fun _ _ x => x.2
end
structure ET (X : Cx) (e : Expr) (t : TE) : Prop where
  run : ∀ (pins : List (Addr × Obj)) (s : Shared) (σ : L2.St) (H : Hp) (Q : VK), 1 ≤ s.toks → Inv X pins σ H s → t σ H Q → wpAny (model X.prog X.w) X.A (eval e X.env) (EP X pins σ Q) X.xe s
structure TT' (X : Cx) (e : Expr) (t : TT) : Prop where
  run : ∀ (pins : List (Addr × Obj)) (s : Shared) (σ : L2.St) (H : Hp) (Q : Bool → Hp → Prop), 1 ≤ s.toks → Inv X pins σ H s → t σ H Q → wpAny (model X.prog X.w) X.A (isTrue e X.env (eval e X.env)) (TP X pins σ Q) X.xe s
structure WT (X : Cx) (e : Expr) (t : TT) : Prop where
  run : ∀ (whole : Sem Value) (pins : List (Addr × Obj)) (s : Shared) (σ : L2.St) (H : Hp) (Q : Bool → Hp → Prop), 1 ≤ s.toks → Inv X pins σ H s → t σ H Q → wpAny (model X.prog X.w) X.A (isTrue e X.env whole) (TP X pins σ Q) X.xe s
structure AT (X : Cx) (es : List Expr) (t : TA) : Prop where
  run : ∀ (pos : Pos) (pins : List (Addr × Obj)) (s : Shared) (σ : L2.St) (H : Hp) (Q : List V → Hp → Prop), 1 ≤ s.toks → Inv X pins σ H s → t σ H Q → wpAny (model X.prog X.w) X.A (spliced (backTo pos (starEach es X.env))) (AP X pins σ Q) X.xe s
structure ST (X : Cx) (st : Stmt) (t : TS) : Prop where
  run : ∀ (pins : List (Addr × Obj)) (s : Shared) (σ : L2.St) (H : Hp) (D : Ends), 1 ≤ s.toks → Inv X pins σ H s → t D σ H → wpAny (model X.prog X.w) X.A (exec st X.env) (SP X pins D) X.xe s
structure BT (X : Cx) (st : List Stmt) (t : TS) : Prop where
  run : ∀ (pins : List (Addr × Obj)) (s : Shared) (σ : L2.St) (H : Hp) (D : Ends), 1 ≤ s.toks → Inv X pins σ H s → t D σ H → wpAny (model X.prog X.w) X.A (execs st X.env) (SP X pins D) X.xe s
/-- the same, and behind it a token is out for sure -/
structure AK (X : Cx) (es : List Expr) (t : TA) : Prop where
  run : ∀ (pos : Pos) (pins : List (Addr × Obj)) (s : Shared) (σ : L2.St) (H : Hp) (Q : List V → Hp → Prop), Inv X pins σ H s → t σ H Q → wpAny (model X.prog X.w) X.A (spliced (backTo pos (starEach es X.env))) (fun us s' => 1 ≤ s'.toks ∧ AP X pins σ Q us s') X.xe s
structure EK (X : Cx) (e : Expr) (t : TE) : Prop where
  run : ∀ (pins : List (Addr × Obj)) (s : Shared) (σ : L2.St) (H : Hp) (Q : VK), Inv X pins σ H s → t σ H Q → wpAny (model X.prog X.w) X.A (eval e X.env) (fun u s' => 1 ≤ s'.toks ∧ EP X pins σ Q u s') X.xe s
structure SK (X : Cx) (st : Stmt) (t : TS) : Prop where
  run : ∀ (pins : List (Addr × Obj)) (s : Shared) (σ : L2.St) (H : Hp) (D : Ends), Inv X pins σ H s → t D σ H → wpAny (model X.prog X.w) X.A (exec st X.env) (fun f s' => 1 ≤ s'.toks ∧ SP X pins D f s') X.xe s
structure BK (X : Cx) (st : List Stmt) (t : TS) : Prop where
  run : ∀ (pins : List (Addr × Obj)) (s : Shared) (σ : L2.St) (H : Hp) (D : Ends), Inv X pins σ H s → t D σ H → wpAny (model X.prog X.w) X.A (execs st X.env) (fun f s' => 1 ≤ s'.toks ∧ SP X pins D f s') X.xe s
structure FnT (P : Program) (w : World) (K : PySem.W.Frag) (mg : Str → Option Value) (base : Heap) (CX : CXT) (k : Nat) (f : Addr) (fd : FuncData) (ps : List Str) (sp : Sp) : Prop where
  len : ∀ vs H Q E, sp vs H Q E → vs.length = ps.length
  run : ∀ (A : Around) (outer : List Env) (s : Shared) (H : Hp) (args : Args) (us : List Value) (vs : List V) (Q : VK) (E : XK), 1 ≤ s.toks → Room k A → Env0 P w K mg base A outer s H → BindsTo s fd args (ps.zip us) → Vals vs us → sp vs H Q E →
    codeAny (model P w) A (.call (.ref f) args) (CR CX outer P w H s Q E) s
structure FnK (P : Program) (w : World) (K : PySem.W.Frag) (mg : Str → Option Value) (base : Heap) (CX : CXT) (k : Nat) (f : Addr) (fd : FuncData) (ps : List Str) (sp : Sp) : Prop where
  len : ∀ vs H Q E, sp vs H Q E → vs.length = ps.length
  run : ∀ (A : Around) (outer : List Env) (s : Shared) (H : Hp) (args : Args) (us : List Value) (vs : List V) (Q : VK) (E : XK), Room k A → Env0 P w K mg base A outer s H → BindsTo s fd args (ps.zip us) → Vals vs us → sp vs H Q E →
    codeAny (model P w) A (.call (.ref f) args) (fun r s' => ((∃ e, r = .error e) ∨ 1 ≤ s'.toks) ∧ CR CX outer P w H s Q E r s') s
structure OwnT (P : Program) (w : World) (K : PySem.W.Frag) (mg : Str → Option Value) (base : Heap) (x : Str) (k : Nat) (ps : List Str) (dvs : List V) (sp : Sp) : Prop where
  ex : ∃ f fd ds, FnT P w K mg base CX0 k f fd ps sp ∧ mg x = some (.ref f) ∧ PySem.W.keepIn K (.ref f) = true ∧ Binds K fd ps ds ∧ Vals dvs ds
structure OwnK (P : Program) (w : World) (K : PySem.W.Frag) (mg : Str → Option Value) (base : Heap) (x : Str) (k : Nat) (ps : List Str) (dvs : List V) (sp : Sp) : Prop where
  ex : ∃ f fd ds, FnK P w K mg base CX0 k f fd ps sp ∧ mg x = some (.ref f) ∧ PySem.W.keepIn K (.ref f) = true ∧ Binds K fd ps ds ∧ Vals dvs ds
section
variable {X : Cx} {a b c e o : Expr} {es rest' : List Expr} {ta tb tc te to : TE} {uA uB uC : TT} {tx : TA} {pos : Pos} {st : Stmt} {rest bd bd' : List Stmt} {t u : TS}
theorem ET.of (h : PE X e te) : ET X e te := ⟨fun pins s σ H Q _ I q => h.run pins s σ H Q I q⟩
theorem TT'.of (h : PT X e uA) : TT' X e uA := ⟨fun pins s σ H Q _ I q => h.run pins s σ H Q I q⟩
theorem WT.of (h : PW X e uA) : WT X e uA := ⟨fun wh pins s σ H Q _ I q => h.run wh pins s σ H Q I q⟩
theorem WT.pt (h : WT X e uA) : TT' X e uA := ⟨h.run _⟩
theorem AT.of (h : PA X es tx) : AT X es tx := ⟨fun pos pins s σ H Q _ I q => h.run pos pins s σ H Q I q⟩
theorem ST.of (h : PS X st t) : ST X st t := ⟨fun pins s σ H D _ I q => h.run pins s σ H D I q⟩
theorem BT.of (h : PSs X bd t) : BT X bd t := ⟨fun pins s σ H D _ I q => h.run pins s σ H D I q⟩
/-- arguments -/
theorem at_cons (ha : ET X e te) (hr : AT X es tx) (hs : starEach (e :: es) X.env = (false, eval e X.env) :: starEach es X.env := by rfl) : AT X (e :: es) (tCons te tx) := by
  refine ⟨fun pos pins s σ H Q hk I h => ?_⟩
  rw [hs]
  show wpAny _ _ (spliced ((false, eval e X.env) :: backTo pos (starEach es X.env))) _ _ s
  refine Calls.spliced_cons (thnK hk (ha.run pins s σ H _ hk I h) fun v s1 k1 ⟨x, H1, I1, r1, q1⟩ => ?_)
  exact thn (hr.run pos pins s1 σ H1 _ k1 I1 q1) fun us s2 ⟨xs, H2, I2, r2, q2⟩ => ⟨x :: xs, H2, I2, .cons r1 r2, q2⟩
theorem at_nil : AT X [] tNil := .of pa_nil
theorem binK (ha : ET X a ta) (hb : ET X b tb) {pins : List (Addr × Obj)} {s : Shared} {σ : L2.St} {H : Hp} {R : V → V → Hp → Prop} (hk : 1 ≤ s.toks) (I : Inv X pins σ H s)
    (h : ta σ H fun x H1 => tb σ H1 fun y H2 => R x y H2) {Q : Value → Shared → Prop} {f : Value → Value → Sem Value}
    (hf : ∀ v u s2 x y H2, Inv X pins σ H2 s2 → RelV x v → RelV y u → R x y H2 → wpAny (model X.prog X.w) X.A (f v u) Q X.xe s2) :
    wpAny (model X.prog X.w) X.A (eval a X.env) (fun v s₁ => wpAny (model X.prog X.w) X.A (eval b X.env) (fun u s₂ => wpAny (model X.prog X.w) X.A (f v u) Q X.xe s₂) X.xe s₁) X.xe s := by
  refine thnK hk (ha.run pins s σ H _ hk I h) fun v s1 k1 ⟨x, H1, I1, r1, q1⟩ => ?_
  refine thn (hb.run pins s1 σ H1 _ k1 I1 q1) fun u s2 ⟨y, H2, I2, r2, q2⟩ => ?_
  exact hf v u s2 x y H2 I2 r1 r2 q2
theorem et_op {op : Operator} {r : R2} (ho : OpR X (binaryOp op) r) (ha : ET X a ta) (hb : ET X b tb) : ET X (.BinOp a op b pos) (tOp r ta tb) :=
  ⟨fun pins s σ H Q hk I h => wpAny_BinOp (binK ha hb hk I h fun v u s2 x y H2 I2 rx ry q => ho pins s2 σ H2 x y v u Q I2 rx ry q)⟩
theorem et_ix {r : R2} (hr : IxR X r) (ha : ET X a ta) (hb : ET X b tb) (hs : PlainIx b) : ET X (.Subscript a b pos) (tOp r ta tb) :=
  ⟨fun pins s σ H Q hk I h => Subscript_ (binK ha hb hk I h fun v u s2 x y H2 I2 rx ry q => hr a b pins s2 σ H2 x y v u Q I2 rx ry q (hs _ _))⟩
theorem et_cmpR {op : CmpOp} {r : R2} (ho : OpR X (compareOp op) r) (ha : ET X a ta) (hb : ET X b tb) (hm : behindInMarks op b = false) : ET X (.Compare a [op] [b] pos) (tOp r ta tb) :=
  ⟨fun pins s σ H Q hk I h => wpAny_Compare1 (binK ha hb hk I h fun v u s2 x y H2 I2 rx ry q => ho pins s2 σ H2 x y v u Q I2 rx ry q) hm⟩
theorem tt_cmpR {op : CmpOp} {r : R2} (ho : OpR X (compareOp op) r) (ha : ET X a ta) (hb : ET X b tb) (hm : behindInMarks op b = false) : TT' X (.Compare a [op] [b] pos) (tTest (tOp r ta tb)) := by
  refine ⟨fun pins s σ H Q hk I h => ?_⟩
  refine wpAny_isTrue_Compare1 (thnK hk (ha.run pins s σ H _ hk I h) fun v s1 k1 ⟨x, H1, I1, r1, q1⟩ => thn (hb.run pins s1 σ H1 _ k1 I1 q1) fun u s2 ⟨y, H2, I2, r2, q2⟩ =>
    thn (ho pins s2 σ H2 x y v u _ I2 r1 r2 q2) fun c s3 ⟨z, H3, I3, r3, k, e, q3⟩ => ?_) hm
  subst e
  cases r3
  exact wpAny_truthy_bool ⟨H3, I3, q3⟩
theorem tt_val (h : ET X e te) (he : ∀ whole, isTrue e X.env whole = (do let v ← whole; standAt e.pos; holding [v] (truthy v)) := by intro _; rfl) : TT' X e (tB te) := by
  refine ⟨fun pins s σ H Q hk I hw => ?_⟩
  refine isTrue_plain (thn (h.run pins s σ H _ hk I hw) fun v s1 ⟨x, H1, I1, r1, q1⟩ => ?_) (he _)
  obtain ⟨k, rfl, q⟩ := q1
  cases r1
  exact wpAny_truthy_bool ⟨H1, I1, q⟩
theorem tt_not (ha : TT' X a uA) : TT' X (.UnaryOp .Not a pos) (tNot uA) :=
  ⟨fun pins s σ H Q hk I h => isTrue_not (ha.run pins s σ H (fun c H1 => Q (!c) H1) hk I h)⟩
theorem wt_and1 (ha : TT' X a uA) : WT X (.BoolOp .And [a] pos) uA := by
  refine ⟨fun wh pins s σ H Q hk I h => ?_⟩
  refine isTrue_and (thn (ha.run pins s σ H Q hk I h) fun c s1 e => ?_)
  cases c with
  | true => exact isTrue_and_nil e
  | false => exact e
theorem wt_or1 (ha : TT' X a uA) : WT X (.BoolOp .Or [a] pos) uA := by
  refine ⟨fun wh pins s σ H Q hk I h => ?_⟩
  refine isTrue_or (thn (ha.run pins s σ H Q hk I h) fun c s1 e => ?_)
  cases c with
  | false => exact isTrue_or_nil e
  | true => exact e
theorem wt_and (ha : TT' X a uA) (hb : WT X (.BoolOp .And (b :: rest') pos) uB) : WT X (.BoolOp .And (a :: b :: rest') pos) (tAnd uA uB) := by
  refine ⟨fun wh pins s σ H Q hk I h => ?_⟩
  refine isTrue_and (thnK hk (ha.run pins s σ H _ hk I h) fun c s1 k1 ⟨H1, I1, q1⟩ => ?_)
  cases c with
  | true => exact hb.run wh pins s1 σ H1 Q k1 I1 q1
  | false => exact ⟨H1, I1, q1⟩
theorem wt_or (ha : TT' X a uA) (hb : WT X (.BoolOp .Or (b :: rest') pos) uB) : WT X (.BoolOp .Or (a :: b :: rest') pos) (tOr uA uB) := by
  refine ⟨fun wh pins s σ H Q hk I h => ?_⟩
  refine isTrue_or (thnK hk (ha.run pins s σ H _ hk I h) fun c s1 k1 ⟨H1, I1, q1⟩ => ?_)
  cases c with
  | true => exact ⟨H1, I1, q1⟩
  | false => exact hb.run wh pins s1 σ H1 Q k1 I1 q1
theorem et_one {op} (h : ET X a ta) : ET X (.BoolOp op [a] pos) ta := ⟨fun pins s σ H Q hk I hw => BoolOp_one (h.run pins s σ H Q hk I hw)⟩
theorem et_and (ha : ET X a ta) (hb : ET X (.BoolOp .And (b :: rest') pos) tb) : ET X (.BoolOp .And (a :: b :: rest') pos) (tAndV ta tb) := by
  refine ⟨fun pins s σ H Q hk I h => ?_⟩
  refine BoolOp_and (thnK hk (ha.run pins s σ H _ hk I h) fun v s1 k1 ⟨x, H1, I1, r1, q1⟩ => ?_)
  obtain ⟨c, rfl, q1⟩ := q1
  cases r1
  refine wpAny_truthy_bool ?_
  cases c with
  | true => exact hb.run pins s1 σ H1 Q k1 I1 q1
  | false => exact ⟨.bl false, H1, I1, rfl, q1⟩
theorem et_or (ha : ET X a ta) (hb : ET X (.BoolOp .Or (b :: rest') pos) tb) : ET X (.BoolOp .Or (a :: b :: rest') pos) (tOrV ta tb) := by
  refine ⟨fun pins s σ H Q hk I h => ?_⟩
  refine BoolOp_or (thnK hk (ha.run pins s σ H _ hk I h) fun v s1 k1 ⟨x, H1, I1, r1, q1⟩ => ?_)
  obtain ⟨c, rfl, q1⟩ := q1
  cases r1
  refine wpAny_truthy_bool ?_
  cases c with
  | false => exact hb.run pins s1 σ H1 Q k1 I1 q1
  | true => exact ⟨.bl true, H1, I1, rfl, q1⟩
theorem et_not (ha : ET X a ta) : ET X (.UnaryOp .Not a pos) (tNotV ta) := by
  refine ⟨fun pins s σ H Q hk I h => ?_⟩
  refine UnaryOp_ (thn (ha.run pins s σ H _ hk I h) fun v s1 ⟨x, H1, I1, r1, q1⟩ => ?_)
  obtain ⟨c, rfl, q1⟩ := q1
  cases r1
  exact not_of (wpAny_truthy_bool ⟨.bl (!c), H1, I1, rfl, q1⟩)
theorem et_ifExp (hc : TT' X c uC) (ha : ET X a ta) (hb : ET X b tb) : ET X (.IfExp c a b pos) (tIf uC ta tb) := by
  refine ⟨fun pins s σ H Q hk I h => ?_⟩
  refine wpAny_IfExp (thnK hk (hc.run pins s σ H _ hk I h) fun d s1 k1 ⟨H1, I1, q1⟩ => ?_)
  cases d with
  | true => exact ha.run pins s1 σ H1 Q k1 I1 q1
  | false => exact hb.run pins s1 σ H1 Q k1 I1 q1
theorem et_tup {x1} (h : AT X es tx) : ET X (.Tuple es x1 pos) (tTup tx) := by
  refine ⟨fun pins s σ H Q hk I hq => ?_⟩
  refine wpAny_Tuple_spliced (thn (h.run pos pins s σ H _ hk I hq) fun us s1 ⟨xs, H1, I1, r, z, q⟩ => ⟨by rw [← r.length]; exact z, ?_⟩)
  have hf : H1 s1.heap.objs.size = none := I1.hok.fresh (Nat.le_refl _)
  refine ⟨.ref s1.heap.objs.size, upd H1 s1.heap.objs.size (.tup xs), I1.laid (t' := s1.toks) (fun b u e => Heap.get?_push_of_some _ e) (Nat.le_refl _) ?_, rfl, q _ hf⟩
  exact ⟨z, us, r, ⟨_, Heap.get?_push_size _ rfl, rfl, _, rfl⟩⟩
theorem et_lst (h : AT X es tx) : ET X (.List es pos) (tLst tx) := by
  refine ⟨fun pins s σ H Q hk I hq => ?_⟩
  refine wpAny_List_spliced (thn (h.run pos pins s σ H _ hk I hq) fun us s1 ⟨xs, H1, I1, r, z, q⟩ => ⟨by rw [← r.length]; exact z, ?_⟩)
  have hf : H1 s1.heap.objs.size = none := I1.hok.fresh (Nat.le_refl _)
  refine ⟨.ref s1.heap.objs.size, upd H1 s1.heap.objs.size (.lst xs), I1.laid (t' := s1.toks) (fun b u e => Heap.get?_push_of_some _ e) (Nat.le_refl _) ?_, rfl, q _ hf⟩
  exact ⟨z, us, 0, r, Heap.get?_push_size _ rfl⟩
/-- a method of a built-in type -/
theorem et_bm {T id : String} {name : Str} {apos cpos : Pos} {r : V → List V → Hp → VK → Prop} (pa : PlainAttrs T) (slot : Slot T name id) (hty : typeOf (.builtin id) = pure (.type "method_descriptor")) (hm : MtR X id r) (ho : ET X o to) (ha : AT X (e :: es) tx)
    (hbase : attributeBase o name X.env (eval o X.env) = eval o X.env := by rfl)
    (hfew : ((backTo cpos (starEach (e :: es) X.env)).all (fun x => !x.1) && (backToKw cpos (keywordEach [] X.env)).all (fun x => x.1.isSome)
      && decide ((e :: es).length + ([] : List Keyword).length + (if ([] : List Keyword).isEmpty then 0 else 1) < 30)) = true := by rfl)
    (hline : (apos.endLine == cpos.line) = true := by rfl) (hs : starEach (e :: es) X.env = (false, eval e X.env) :: starEach es X.env := by rfl) (hplain : (backTo cpos (starEach es X.env)).any (·.1) = false := by rfl) :
    ET X (.Call (.Attribute o name apos) (e :: es) [] cpos) (tBM X.K T r to tx) := by
  refine ⟨fun pins s σ H Q hk I h => ?_⟩
  refine wpAny_Call_method_late hbase hfew hline rfl (thnK hk (ho.run pins s σ H _ hk I h) fun v s1 k1 ⟨x, H1, I1, r1, ty, q1⟩ => ?_)
  obtain ⟨h1, h2⟩ := tyV_is I1 r1 ty
  refine ⟨T, id, pa, slot, hty, h1, h2, ?_⟩
  have hA := ha.run cpos pins s1 σ H1 _ k1 I1 q1
  rw [hs] at hA ⊢
  refine Calls.callWith_builtin (by show (false || (backTo cpos (starEach es X.env)).any (·.1)) = false; rw [hplain] <;> rfl) (Calls.evalArgs_plain ?_)
  exact thn hA fun us s2 ⟨vs, H2, I2, r2, q2⟩ => hm pins s2 σ H2 x vs v us Q I2 r1 r2 q2
/-- statements -/
theorem st_expr (he : ET X e te) (hs : swapsWith e none pos.line X.env = pure false := by rfl) : ST X (.Expr e pos) (tDrop te) :=
  ⟨fun pins s σ H D hk I h => wpAny_Expr_any (thn (he.run pins s σ H _ hk I h) fun v s1 ⟨x, H1, I1, r1, q1⟩ => ⟨σ, H1, I1, q1⟩) I.quiet hs⟩
theorem st_ret (he : ET X e te) : ST X (.Return (some e) pos) (tRet te) :=
  ⟨fun pins s σ H D hk I h => wpAny_Return_some (thn (he.run pins s σ H _ hk I h) fun v s1 ⟨x, H1, I1, r1, q1⟩ => ⟨x, σ, H1, I1, r1, q1⟩)⟩
theorem st_if (hc : TT' X c uC) (ha : BT X bd t) (hb : BT X bd' u) : ST X (.If c bd bd' pos) (tIfS uC t u) := by
  refine ⟨fun pins s σ H D hk I h => ?_⟩
  refine wpAny_If (thnK hk (hc.run pins s σ H _ hk I h) fun d s1 k1 ⟨H1, I1, q1⟩ => ?_)
  cases d with
  | true => exact ha.run pins s1 σ H1 D k1 I1 q1
  | false => exact hb.run pins s1 σ H1 D k1 I1 q1
theorem st_asg {tg : Expr} {g : TG} (he : ET X e te) (hg : PG X tg g) (hs : swapsWithSole [tg] e pos.line X.env = pure false := by rfl) (hw : swappedStores [tg] e X.env = pure none := by rfl)
    (h1 : (assignEach [tg] X.env).map (·.2) = [assign tg X.env] := by rfl) : ST X (.Assign [tg] e pos) (tAsg te g) := by
  refine ⟨fun pins s σ H D hk I h => ?_⟩
  refine wpAny_Assign_stores (thn (he.run pins s σ H _ hk I h) fun v s1 ⟨x, H1, I1, r1, q1⟩ => ?_) hs hw
  rw [h1]
  exact thn (hg.run pins s1 σ H1 x v _ I1 r1 q1) fun _ s2 q => q
theorem st_set {i : Nat} {x : Str} {pos' : Pos} (hN : X.N.Nodup) (hi : X.N[i]? = some x) (hx : Loc X.env.scope x) (he : ET X e te) (hs : swapsWith e (some (.Name x pos')) pos.line X.env = pure false := by rfl) (hf : X.fn x = true ∨ X.env.scope.names.lookup x = some .local := by first | exact .inl rfl | exact .inr rfl | assumption) :
    ST X (.Assign [.Name x pos'] e pos) (tAsg te (gName i)) := by
  refine ⟨fun pins s σ H D hk I h => ?_⟩
  refine wpAny_Assign_Name (thn (he.run pins s σ H _ hk I h) fun v s1 ⟨y, H1, I1, r1, q1⟩ => ?_) hs
  exact store_ok I1 hN hi hx r1 (fun s2 I2 => ⟨_, H1, I2, q1⟩) hf
theorem bt_nil : BT X [] tNext := .of pss_nil
theorem bt_one (h1 : ST X st t) : BT X [st] t := by
  refine ⟨fun pins s σ H D hk I h => ?_⟩
  refine wpAny_execs_cons (thn (h1.run pins s σ H D hk I h) fun f s1 q => ?_)
  cases f with
  | next => exact wpAny_execs_nil q
  | ret v => exact q
  | brk => exact q
  | cont => exact q
theorem bt_cons (h1 : ST X st t) (h2 : BT X rest u) : BT X (st :: rest) (tSeq t u) := by
  refine ⟨fun pins s σ H D hk I h => ?_⟩
  refine wpAny_execs_cons (thnK hk (h1.run pins s σ H { D with nx := u D } hk I h) fun f s1 k1 q => ?_)
  cases f with
  | next =>
    obtain ⟨σ', H', I', q⟩ := q
    exact h2.run pins s1 σ' H' D k1 I' q
  | ret v => exact q
  | brk => exact q
  | cont => exact q
theorem bt_cut (h1 : ST X st t) (h2 : BT X rest u) : BT X (st :: rest) (tCut t u) := by
  refine ⟨fun pins s σ H D hk I h => ?_⟩
  obtain ⟨Mid, hm, hu⟩ := h
  refine wpAny_execs_cons (thnK hk (h1.run pins s σ H { D with nx := Mid } hk I hm) fun f s1 k1 q => ?_)
  cases f with
  | next =>
    obtain ⟨σ', H', I', q⟩ := q
    exact h2.run pins s1 σ' H' D k1 I' (hu σ' H' q)
  | ret v => exact q
  | brk => exact q
  | cont => exact q
/-- behind a statement that gives a token out -/
theorem pssk_cons (h1 : SK X st t) (h2 : BT X rest u) : PSs X (st :: rest) (tSeq t u) := by
  refine ⟨fun pins s σ H D I h => ?_⟩
  refine wpAny_execs_cons (thn (h1.run pins s σ H { D with nx := u D } I h) fun f s1 ⟨k1, q⟩ => ?_)
  cases f with
  | next =>
    obtain ⟨σ', H', I', q⟩ := q
    exact h2.run pins s1 σ' H' D k1 I' q
  | ret v => exact q
  | brk => exact q
  | cont => exact q
theorem st_for {iter tg : Expr} {wi : TI} {g : TG} {tb : TS} (hp : PassesOwn (model X.prog X.w) X.A X.env X.xe) (hc : X.calm = true) (hi : PI X tg iter wi) (hg : PG X tg g) (hb : BT X bd tb)
    (hs : ∀ x, foldedSetIterable iter X.env x = pure x := by intro _; rfl) : ST X (.For tg iter bd [] pos) (tFor wi g tb) := by
  refine ⟨fun pins s σ H D hk I h => ?_⟩
  refine wpAny_For (thnK hk (hi.run pins s σ H _ I h) fun v s1 k1 h1 => thnK k1 h1 fun itv s2 k2 h2 => ?_) hs
  obtain ⟨it, fp, tn, J, H2, e, I2, T, st2, f2, W, ⟨m0, w0⟩, turn⟩ := h2
  subst e
  have stat : ∀ {H' : Hp}, (∀ b ∈ fp, H' b = none) → ∀ b ∈ fp, FpOk X pins H' b := fun hn b hb => ⟨hn b hb, (f2 b hb).2⟩
  refine codeAny_forLoop_any (fun n s' => 1 ≤ s'.toks ∧ ∃ i σ' H', Inv X pins σ' H' s' ∧ tn i s'.heap ∧ (∀ b ∈ fp, H' b = none) ∧ W i n σ' H') ?_ m0 ⟨k2, 0, σ, H2, I2, st2, fun b hb => (f2 b hb).1, w0⟩
  rintro n s3 ⟨k3, i, σ3, H3, I3, st3, fr3, w3⟩
  rcases turn i n σ3 H3 w3 with ⟨stop, qn⟩ | ⟨go, N, hN, step⟩
  · refine wpAny_passesOwn hp (thn (T.done X rfl rfl rfl hc i pins s3 σ3 H3 X.xe I3 (stat fr3) st3 stop) fun r s4 ⟨hr, I4⟩ => ?_)
    subst hr
    exact wpAny_execs_nil ⟨σ3, H3, I4, qn⟩
  · refine wpAny_passesOwn hp (thnK k3 (T.item X rfl rfl rfl hc i pins s3 σ3 H3 X.xe I3 (stat fr3) st3 go) fun r s4 k4 ⟨u, hr, h4⟩ => ?_)
    subst hr
    refine wpAny_passesOwn hp (thnK k4 h4 fun _ s5 k5 ⟨x, H5, I5, r5, y5, st5, fr5⟩ => ?_)
    have I5' := I5.pinned (stat fr5) (T.obj _ _ st5)
    refine wpAny_passesOwn hp (thnK k5 (hg.run _ s5 σ3 H5 x u _ I5' r5 (step x H5 y5)) fun _ s6 k6 ⟨σ6, H6, I6, q6⟩ => ?_)
    refine wpAny_passesOwn hp (thnK k6 (hb.run _ s6 σ6 H6 _ k6 I6 q6) fun f s7 k7 q7 => ?_)
    have again : ∀ {σ7 : L2.St} {H7 : Hp}, Inv X (pins ++ pinsAt fp s5.heap) σ7 H7 s7 → N σ7 H7 → ∃ m, m < n ∧ 1 ≤ s7.toks ∧ ∃ i σ' H', Inv X pins σ' H' s7 ∧ tn i s7.heap ∧ (∀ b ∈ fp, H' b = none) ∧ W i m σ' H' := fun {σ7 H7} I7 n7 => by
      obtain ⟨m', hm, w7⟩ := hN σ7 H7 n7
      refine ⟨m', hm, k7, i + 1, σ7, H7, I7.unpinned, T.keep _ _ _ st5 fun b hb o e => (I7.pin (b, o) (List.mem_append_right _ (List.mem_append_right _ (mem_pinsAt hb e)))).1, fun b hb => ?_, w7⟩
      obtain ⟨o, e, d⟩ := T.obj _ _ st5 b hb
      exact (I7.pin (b, o) (List.mem_append_right _ (List.mem_append_right _ (mem_pinsAt hb e)))).2.1
    cases f with
    | next => obtain ⟨σ7, H7, I7, n7⟩ := q7; exact again I7 n7
    | cont => obtain ⟨σ7, H7, I7, n7⟩ := q7; exact again I7 n7
    | brk => obtain ⟨σ7, H7, I7, q7⟩ := q7; exact ⟨σ7, H7, I7.unpinned, q7⟩
    | ret v => obtain ⟨x7, σ7, H7, I7, r7, q7⟩ := q7; exact ⟨x7, σ7, H7, I7.unpinned, r7, q7⟩
theorem st_while {tb : TS} (hp : PassesOwn (model X.prog X.w) X.A X.env X.xe) (hc : TT' X c uC) (hb : BT X bd tb) : ST X (.While c bd [] pos) (tWhile uC tb) := by
  refine ⟨fun pins s σ H D hk I h => ?_⟩
  obtain ⟨W, ⟨m0, w0⟩, turn⟩ := h
  refine wpAny_While (codeAny_whileLoop (fun n s' => 1 ≤ s'.toks ∧ ∃ σ' H', Inv X pins σ' H' s' ∧ W n σ' H') ?_ m0 ⟨hk, σ, H, I, w0⟩)
  rintro n s1 ⟨k1, σ1, H1, I1, w1⟩
  refine wpAny_passesOwn hp (thnK k1 (hc.run pins s1 σ1 H1 _ k1 I1 (turn n σ1 H1 w1)) fun b s2 k2 ⟨H2, I2, q2⟩ => ?_)
  cases b with
  | true =>
    obtain ⟨N, hN, q2⟩ := q2
    rw [if_pos rfl]
    refine wpAny_passesOwn hp (thnK k2 (hb.run pins s2 σ1 H2 _ k2 I2 q2) fun f s3 k3 q3 => ?_)
    cases f with
    | next =>
      obtain ⟨σ3, H3, I3, n3⟩ := q3
      obtain ⟨m', hm, w3⟩ := hN σ3 H3 n3
      exact ⟨m', hm, k3, σ3, H3, I3, w3⟩
    | cont =>
      obtain ⟨σ3, H3, I3, n3⟩ := q3
      obtain ⟨m', hm, w3⟩ := hN σ3 H3 n3
      exact ⟨m', hm, k3, σ3, H3, I3, w3⟩
    | brk => exact q3
    | ret v => exact q3
  | false =>
    rw [if_neg Bool.false_ne_true]
    exact wpAny_execs_nil ⟨σ1, H2, I2, q2⟩
/-- calls of own defs -/
theorem run_fnT {CX : CXT} {k : Nat} {f : Addr} {fd : FuncData} {ps : List Str} {ds : List Value} {dvs : List V} {sp : Sp} {E : XK} {pins : List (Addr × Obj)} {σ : L2.St} {H : Hp} {s : Shared} {Q : VK} {us : List Value} {vs : List V} (F : FnT X.prog X.w X.K X.mg X.base CX k f fd ps sp) (hr : Room k X.A) (hb : Binds X.K fd ps ds) (hd : Vals dvs ds) (hx : Passes CX X E)
    (hk : 1 ≤ s.toks) (I : Inv X pins σ H s) (r : Vals vs us) (h : sp (vs ++ dvs) H Q E) : wpAny (model X.prog X.w) X.A (call (.ref f) us) (EP X pins σ Q) X.xe s := by
  have r2 : Vals (vs ++ dvs) (us ++ ds) := r.append hd
  have hl : (us ++ ds).length = ps.length := by rw [← r2.length]; exact F.len _ _ _ _ h
  refine wpAny_call (codeAny_mono (F.run X.A X.stack s H ⟨us, []⟩ (us ++ ds) (vs ++ dvs) Q E hk hr I.env0 (hb s us I.kIn hl) r2 h) fun r s' hq => ?_)
  cases r with
  | error e => exact hx pins σ H s e s' I hq
  | ok fl =>
    cases fl with
    | ret u => exact I.after hq
    | next => exact False.elim hq
    | brk => exact False.elim hq
    | cont => exact False.elim hq
theorem run_fnK {CX : CXT} {k : Nat} {f : Addr} {fd : FuncData} {ps : List Str} {ds : List Value} {dvs : List V} {sp : Sp} {E : XK} {pins : List (Addr × Obj)} {σ : L2.St} {H : Hp} {s : Shared} {Q : VK} {us : List Value} {vs : List V} (F : FnK X.prog X.w X.K X.mg X.base CX k f fd ps sp) (hr : Room k X.A) (hb : Binds X.K fd ps ds) (hd : Vals dvs ds) (hx : Passes CX X E)
    (I : Inv X pins σ H s) (r : Vals vs us) (h : sp (vs ++ dvs) H Q E) : wpAny (model X.prog X.w) X.A (call (.ref f) us) (fun u s' => 1 ≤ s'.toks ∧ EP X pins σ Q u s') X.xe s := by
  have r2 : Vals (vs ++ dvs) (us ++ ds) := r.append hd
  have hl : (us ++ ds).length = ps.length := by rw [← r2.length]; exact F.len _ _ _ _ h
  refine wpAny_call (codeAny_mono (F.run X.A X.stack s H ⟨us, []⟩ (us ++ ds) (vs ++ dvs) Q E hr I.env0 (hb s us I.kIn hl) r2 h) fun r s' hq => ?_)
  cases r with
  | error e => exact hx pins σ H s e s' I hq.2
  | ok fl =>
    cases fl with
    | ret u => exact ⟨hq.1.elim (fun ⟨_, z⟩ => nomatch z) _root_.id, I.after hq.2⟩
    | next => exact False.elim hq.2
    | brk => exact False.elim hq.2
    | cont => exact False.elim hq.2
variable {x : Str} {k : Nat} {ps : List Str} {dvs : List V} {sp : Sp} {p : Pos}
theorem et_own (O : OwnT X.prog X.w X.K X.mg X.base x k ps dvs sp) (hr : Room k X.A) (hg : Gl X x) (ha : AT X (e :: es) tx) (hdb : (x == ("__debug__" : Str)) = false := by decide) (he : starEach (e :: es) X.env = (false, eval e X.env) :: starEach es X.env := by rfl) (hpl : (backTo pos (starEach es X.env)).any (·.1) = false := by rfl) :
    ET X (.Call (.Name x p) (e :: es) [] pos) (tCall sp dvs E0 tx) := by
  obtain ⟨f, fd, ds, F, hm, hkp, hb, hd⟩ := O.ex
  refine ⟨fun pins s σ H Q hk I h => ?_⟩
  refine wpAny_Call_Name_kw (ld_glob I hg hm ?_ hdb)
  refine PySem.W.callWith_K (h₀ := X.base) I.ok.mod.kin hkp (thnK hk (ha.run pos pins s σ H _ hk I h) fun us s1 k1 ⟨vs, H1, I1, r, q⟩ => ⟨I1.kIn, ?_⟩) he hpl
  exact run_fnT F hr hb hd pass0 k1 I1 r q
/-- a call of a def without tokens' care, its arguments with it -/
theorem et_ownP (O : Own X.prog X.w X.K X.mg X.base x k ps dvs sp) (hr : Room k X.A) (hg : Gl X x) (ha : AT X (e :: es) tx) (hdb : (x == ("__debug__" : Str)) = false := by decide) (he : starEach (e :: es) X.env = (false, eval e X.env) :: starEach es X.env := by rfl) (hpl : (backTo pos (starEach es X.env)).any (·.1) = false := by rfl) :
    ET X (.Call (.Name x p) (e :: es) [] pos) (tCall sp dvs E0 tx) := by
  obtain ⟨f, fd, ds, F, hm, hkp, hb, hd⟩ := O.ex
  refine ⟨fun pins s σ H Q hk I h => ?_⟩
  refine wpAny_Call_Name_kw (ld_glob I hg hm ?_ hdb)
  refine PySem.W.callWith_K (h₀ := X.base) I.ok.mod.kin hkp (thnK hk (ha.run pos pins s σ H _ hk I h) fun us s1 k1 ⟨vs, H1, I1, r, q⟩ => ⟨I1.kIn, ?_⟩) he hpl
  exact run_fn F hr hb hd pass0 I1 r q
theorem ek_own (O : OwnK X.prog X.w X.K X.mg X.base x k ps dvs sp) (hr : Room k X.A) (hg : Gl X x) (ha : PA X (e :: es) tx) (hdb : (x == ("__debug__" : Str)) = false := by decide) (he : starEach (e :: es) X.env = (false, eval e X.env) :: starEach es X.env := by rfl) (hpl : (backTo pos (starEach es X.env)).any (·.1) = false := by rfl) :
    EK X (.Call (.Name x p) (e :: es) [] pos) (tCall sp dvs E0 tx) := by
  obtain ⟨f, fd, ds, F, hm, hkp, hb, hd⟩ := O.ex
  refine ⟨fun pins s σ H Q I h => ?_⟩
  refine wpAny_Call_Name_kw (ld_glob I hg hm ?_ hdb)
  refine PySem.W.callWith_K (h₀ := X.base) I.ok.mod.kin hkp (thn (ha.run pos pins s σ H _ I h) fun us s1 ⟨vs, H1, I1, r, q⟩ => ⟨I1.kIn, ?_⟩) he hpl
  exact run_fnK F hr hb hd pass0 I1 r q
theorem sk_set {i : Nat} {y : Str} {pos' : Pos} (hN : X.N.Nodup) (hi : X.N[i]? = some y) (hx : Loc X.env.scope y) (he : EK X e te) (hs : swapsWith e (some (.Name y pos')) pos.line X.env = pure false := by rfl) (hf : X.fn y = true ∨ X.env.scope.names.lookup y = some .local := by first | exact .inl rfl | exact .inr rfl | assumption) :
    SK X (.Assign [.Name y pos'] e pos) (tAsg te (gName i)) := by
  refine ⟨fun pins s σ H D I h => ?_⟩
  refine wpAny_Assign_Name (thn (he.run pins s σ H _ I h) fun v s1 ⟨k1, z, H1, I1, r1, q1⟩ => ?_) hs
  exact thnK k1 (store_ok (Q := fun _ s2 => SP X pins D .next s2) I1 hN hi hx r1 (fun s2 I2 => ⟨_, H1, I2, q1⟩) hf) fun _ s2 k2 q => ⟨k2, q⟩
/-- what gives a token out: a written number among the items of a list -/
theorem ek_int {n : Int} {j : Nat} : EK X (.Constant (.int n) j pos) (tC (.int n)) :=
  ⟨fun pins s σ H Q I h => wpAny_Constant_int ⟨Nat.le_add_left 1 _, .int n, H, I.tok _, ⟨_, rfl⟩, h⟩⟩
theorem ak_here (ha : EK X e te) (hr : PA X es tx) (hs : starEach (e :: es) X.env = (false, eval e X.env) :: starEach es X.env := by rfl) : AK X (e :: es) (tCons te tx) := by
  refine ⟨fun pos pins s σ H Q I h => ?_⟩
  rw [hs]
  show wpAny _ _ (spliced ((false, eval e X.env) :: backTo pos (starEach es X.env))) _ _ s
  refine Calls.spliced_cons (thn (ha.run pins s σ H _ I h) fun v s1 ⟨k1, x, H1, I1, r1, q1⟩ => ?_)
  exact thnK k1 (hr.run pos pins s1 σ H1 _ I1 q1) fun us s2 k2 ⟨xs, H2, I2, r2, q2⟩ => ⟨k2, x :: xs, H2, I2, .cons r1 r2, q2⟩
theorem ak_there (ha : PE X e te) (hr : AK X es tx) (hs : starEach (e :: es) X.env = (false, eval e X.env) :: starEach es X.env := by rfl) : AK X (e :: es) (tCons te tx) := by
  refine ⟨fun pos pins s σ H Q I h => ?_⟩
  rw [hs]
  show wpAny _ _ (spliced ((false, eval e X.env) :: backTo pos (starEach es X.env))) _ _ s
  refine Calls.spliced_cons (thn (ha.run pins s σ H _ I h) fun v s1 ⟨x, H1, I1, r1, q1⟩ => ?_)
  exact thn (hr.run pos pins s1 σ H1 _ I1 q1) fun us s2 ⟨k2, xs, H2, I2, r2, q2⟩ => ⟨k2, x :: xs, H2, I2, .cons r1 r2, q2⟩
theorem ek_lst (h : AK X es tx) : EK X (.List es pos) (tLst tx) := by
  refine ⟨fun pins s σ H Q I hq => ?_⟩
  refine wpAny_List_spliced (thn (h.run pos pins s σ H _ I hq) fun us s1 ⟨k1, xs, H1, I1, r, z, q⟩ => ⟨by rw [← r.length]; exact z, ?_⟩)
  have hf : H1 s1.heap.objs.size = none := I1.hok.fresh (Nat.le_refl _)
  refine ⟨k1, .ref s1.heap.objs.size, upd H1 s1.heap.objs.size (.lst xs), I1.laid (t' := s1.toks) (fun b u e => Heap.get?_push_of_some _ e) (Nat.le_refl _) ?_, rfl, q _ hf⟩
  exact ⟨z, us, 0, r, Heap.get?_push_size _ rfl⟩
theorem sk_ret (he : EK X e te) : SK X (.Return (some e) pos) (tRet te) :=
  ⟨fun pins s σ H D I h => wpAny_Return_some (thn (he.run pins s σ H _ I h) fun v s1 ⟨k1, x, H1, I1, r1, q1⟩ => ⟨k1, x, σ, H1, I1, r1, q1⟩)⟩
theorem bk_one (h1 : SK X st t) : BK X [st] t := by
  refine ⟨fun pins s σ H D I h => ?_⟩
  refine wpAny_execs_cons (thn (h1.run pins s σ H D I h) fun f s1 ⟨k1, q⟩ => ?_)
  cases f with
  | next => exact wpAny_execs_nil ⟨k1, q⟩
  | ret v => exact ⟨k1, q⟩
  | brk => exact ⟨k1, q⟩
  | cont => exact ⟨k1, q⟩
end

/-! ### defs by their bodies: plain, from states with a token, giving one out -/
theorem BT.nox {X : Cx} {st : List Stmt} {t : TS} (h : BT X.nox st t) : BT X st t := ⟨fun pins s σ H D hk I hw =>
  wpAny_mono (h.run pins s σ H D hk (I.wish _) hw) (fun _ _ q => q.unwish) fun _ _ z => False.elim z⟩
theorem BK.nox {X : Cx} {st : List Stmt} {t : TS} (h : BK X.nox st t) : BK X st t := ⟨fun pins s σ H D I hw =>
  wpAny_mono (h.run pins s σ H D (I.wish _) hw) (fun _ _ q => ⟨q.1, q.2.unwish⟩) fun _ _ z => False.elim z⟩
abbrev Fn (K : PySem.W.Frag) (x : Str) (st : Stmt) (dvs : List V) (f : Addr) (fd : FuncData) : Prop := FunD K x x (defArgs st) (defBody st) (defScope st) dvs [] f fd
section
variable {P : Program} {w : World} {K : PySem.W.Frag} {mg : Str → Option Value} {base : Heap} {x : Str} {st : Stmt} {dvs : List V} {f : Addr} {fd : FuncData} {N ps : List Str} {k : Nat} {sp : Sp}
theorem Fn.mk' {oc dV kV doc pm cdv ct : Value} {od an : Option Addr} {osl : Array (Option Value)} (l : K.lookup f = some ⟨oc, od, .func (PySem.W.fnOf x x (defArgs st) (defBody st) (defScope st) dV kV doc pm an cdv ct), osl⟩)
    (c : PySem.W.codeIn K cdv x = true) (h : PySem.W.keepIn K (.ref f) = true) (d : DflV K dV dvs) : Fn K x st dvs f (PySem.W.fnOf x x (defArgs st) (defBody st) (defScope st) dV kV doc pm an cdv ct) :=
  ⟨⟨oc, od, dV, kV, doc, pm, an, cdv, ct, osl, rfl, l, c, d, .inl rfl⟩, h⟩
theorem Fn.okN (F : Fn K x st dvs f fd) (S : FnScope N ps (defScope st)) (len : ∀ vs H Q E, sp vs H Q E → vs.length = ps.length)
    (hbody : ∀ (cdv : Value) (A : Around) (outer : List Env) (s : Shared) (H : Hp) (vs : List V) (Q : VK) (E : XK), Room k (A.deeper (envOfC x (defScope st) s.heap.objs.size f cdv)) → sp vs H Q E →
      ∃ t, PSs (cxOf CX0 P w K mg base N x (defScope st) f cdv A outer s H E).nox (defBody st) t ∧ t { nx := fun _ H' => Q .non H', rt := Q } (start N vs) H) : FnOk P w K mg base CX0 (k + 1) f fd ps sp :=
  FunD.ok F S len fun cdv A outer s H vs Q E hr hsp => by
    obtain ⟨t, h, q⟩ := hbody cdv A outer s H vs Q E hr hsp
    exact ⟨t, h.nox, q⟩
theorem Fn.okT (F : Fn K x st dvs f fd) (S : FnScope N ps (defScope st)) (len : ∀ vs H Q E, sp vs H Q E → vs.length = ps.length)
    (hbody : ∀ (cdv : Value) (A : Around) (outer : List Env) (s : Shared) (H : Hp) (vs : List V) (Q : VK) (E : XK), Room k (A.deeper (envOfC x (defScope st) s.heap.objs.size f cdv)) → sp vs H Q E →
      ∃ t, BT (cxOf CX0 P w K mg base N x (defScope st) f cdv A outer s H E).nox (defBody st) t ∧ t { nx := fun _ H' => Q .non H', rt := Q } (start N vs) H) : FnT P w K mg base CX0 (k + 1) f fd ps sp := by
  obtain ⟨oc, od, dV, kV, doc, pm, an, cdv, ct, osl, rfl, lk, hcd, _, _⟩ := F.ex
  refine ⟨len, fun A outer s H args us vs Q E hk hr e0 hb r hsp => ?_⟩
  have hl := len _ _ _ _ hsp
  have KX : K.In s.heap := e0.mod.kin.keeps fun b o e => (e0.bs b o e).1
  have lim : s.heap.NoLimit := e0.mod.nolimit.keeps fun b o e => (e0.bs b o e).1
  have hkind : ∀ y ∈ ps.zip us, (defScope st).names.lookup y.1 = some .local ∨ ((defScope st).names.lookup y.1 = some .cell ∧ ((cellsFrom (s.heap.objs.size + 1) (defScope st).names []).lookup y.1).isSome = true) := fun ⟨n, v⟩ hy => by
    rcases S.par n (List.of_mem_zip hy).1 with q | q
    · exact .inl q
    · exact .inr ⟨q, PySem.W.cellsFrom_some _ _ _ (.inl q)⟩
  refine codeAny_call_function hr.depth (KX _ _ lk) rfl S.co S.gen rfl (PySem.W.codeRec_of KX hcd) (hb _ _ _ _ ?_)
  refine PySem.wpAny_with_toks hk ?_
  refine wpAny_newFunctionEnv_cells S.kind hkind fun env he s1 xx => ?_
  intro k1
  subst he
  refine ⟨lim.keeps xx.toInCall.keep, codeAny_func ?_⟩
  obtain ⟨t, ht, hq⟩ := hbody cdv A outer s H vs Q E (hr.deeper _) hsp
  have I : Inv (cxOf CX0 P w K mg base N x (defScope st) f cdv A outer s H E) [] (start N vs) H s1 := inv_start S hr.hd e0 hl r xx
  refine wpAny_mono (ht.nox.run [] s1 (start N vs) H _ k1 I hq) (fun fl s' hs => ?_) fun e s' hs => hs
  have fin : ∀ {σ' : L2.St} {H' : Hp} {v : V} {u : Value}, Inv (cxOf CX0 P w K mg base N x (defScope st) f cdv A outer s H E) [] σ' H' s' → RelV v u → Q v H' → CE outer P w H s Q u s' :=
    fun {σ' H' v u} J rv q => ⟨v, H', J.os, J.bare, J.base, J.hok, rv, q⟩
  cases fl with
  | ret u =>
    obtain ⟨v, σ', H', J, rv, q⟩ := hs
    exact fin J rv q
  | next =>
    obtain ⟨σ', H', J, q⟩ := hs
    exact fin (v := V.non) (u := Value.none) J rfl q
  | brk =>
    obtain ⟨_, _, _, q⟩ := hs
    exact False.elim q
  | cont =>
    obtain ⟨_, _, _, q⟩ := hs
    exact False.elim q
theorem Fn.okK (F : Fn K x st dvs f fd) (S : FnScope N ps (defScope st)) (len : ∀ vs H Q E, sp vs H Q E → vs.length = ps.length)
    (hbody : ∀ (cdv : Value) (A : Around) (outer : List Env) (s : Shared) (H : Hp) (vs : List V) (Q : VK) (E : XK), Room k (A.deeper (envOfC x (defScope st) s.heap.objs.size f cdv)) → sp vs H Q E →
      ∃ t, BK (cxOf CX0 P w K mg base N x (defScope st) f cdv A outer s H E).nox (defBody st) t ∧ t { nx := fun _ H' => Q .non H', rt := Q } (start N vs) H) : FnK P w K mg base CX0 (k + 1) f fd ps sp := by
  obtain ⟨oc, od, dV, kV, doc, pm, an, cdv, ct, osl, rfl, lk, hcd, _, _⟩ := F.ex
  refine ⟨len, fun A outer s H args us vs Q E hr e0 hb r hsp => ?_⟩
  have hl := len _ _ _ _ hsp
  have KX : K.In s.heap := e0.mod.kin.keeps fun b o e => (e0.bs b o e).1
  have lim : s.heap.NoLimit := e0.mod.nolimit.keeps fun b o e => (e0.bs b o e).1
  have hkind : ∀ y ∈ ps.zip us, (defScope st).names.lookup y.1 = some .local ∨ ((defScope st).names.lookup y.1 = some .cell ∧ ((cellsFrom (s.heap.objs.size + 1) (defScope st).names []).lookup y.1).isSome = true) := fun ⟨n, v⟩ hy => by
    rcases S.par n (List.of_mem_zip hy).1 with q | q
    · exact .inl q
    · exact .inr ⟨q, PySem.W.cellsFrom_some _ _ _ (.inl q)⟩
  refine codeAny_call_function hr.depth (KX _ _ lk) rfl S.co S.gen rfl (PySem.W.codeRec_of KX hcd) (hb _ _ _ _ ?_)
  refine wpAny_newFunctionEnv_cells S.kind hkind fun env he s1 xx => ?_
  subst he
  refine ⟨lim.keeps xx.toInCall.keep, codeAny_func ?_⟩
  obtain ⟨t, ht, hq⟩ := hbody cdv A outer s H vs Q E (hr.deeper _) hsp
  have I : Inv (cxOf CX0 P w K mg base N x (defScope st) f cdv A outer s H E) [] (start N vs) H s1 := inv_start S hr.hd e0 hl r xx
  refine wpAny_mono (ht.nox.run [] s1 (start N vs) H _ I hq) (fun fl s' hs => ?_) fun e s' hs => ?_
  · obtain ⟨kk, hs⟩ := hs
    have fin : ∀ {σ' : L2.St} {H' : Hp} {v : V} {u : Value}, Inv (cxOf CX0 P w K mg base N x (defScope st) f cdv A outer s H E) [] σ' H' s' → RelV v u → Q v H' → ((∃ e : Value, (Except.ok (Flow.ret u) : Result) = .error e) ∨ 1 ≤ s'.toks) ∧ CE outer P w H s Q u s' :=
      fun {σ' H' v u} J rv q => ⟨.inr kk, v, H', J.os, J.bare, J.base, J.hok, rv, q⟩
    cases fl with
    | ret u =>
      obtain ⟨v, σ', H', J, rv, q⟩ := hs
      exact fin J rv q
    | next =>
      obtain ⟨σ', H', J, q⟩ := hs
      have z := fin (v := V.non) (u := Value.none) J rfl q
      exact ⟨.inr kk, z.2⟩
    | brk =>
      obtain ⟨_, _, _, q⟩ := hs
      exact False.elim q
    | cont =>
      obtain ⟨_, _, _, q⟩ := hs
      exact False.elim q
  · exact wpAny_mono hs (fun _ _ z => ⟨.inl ⟨_, rfl⟩, z⟩) (fun _ _ z => ⟨.inl ⟨_, rfl⟩, z⟩)
end

/-! ### further rules: text.replace of written texts, get of a written dict, in a tuple of data -/
section
variable {X : Cx} {o e : Expr} {to te : TE}
def tRepl (y z : Str) (to : TE) : TE := fun σ H Q => to σ H fun x H1 => ∃ a : Str, x = .str a ∧ a.length + (a.length + 1) * z.length ≤ 16777216 ∧ Q (.str (Txt.replace a y z)) H1
theorem et_repl {y z : Str} {j0 j1 : Nat} {c0 c1 apos pos : Pos} (ho : ET X o to) (hyz : (y == z) = false) (hst : starEach [.Constant (.str y) j0 c0, .Constant (.str z) j1 c1] X.env = [(false, eval (.Constant (.str y) j0 c0) X.env), (false, eval (.Constant (.str z) j1 c1) X.env)] := by rfl)
    (hbase : attributeBase o "replace" X.env (eval o X.env) = eval o X.env := by rfl) (hline : (apos.endLine == pos.line) = true := by rfl) :
    ET X (.Call (.Attribute o "replace" apos) [.Constant (.str y) j0 c0, .Constant (.str z) j1 c1] [] pos) (tRepl y z to) := by
  refine ⟨fun pins s σ H Q hk I h => ?_⟩
  refine PySem.Call_method2 hbase hst hline (thnK hk (ho.run pins s σ H _ hk I h) fun v s1 k1 ⟨x, H1, I1, r1, a, ex, hb, q⟩ => ?_)
  subst ex
  obtain ⟨tx, rfl⟩ := r1
  refine ⟨"str", _, PySem.F.plainAttrs_str, PySem.F.slot_str_replace, PySem.F.type_str_replace, typeIs_str _ _ _, (fun _ e => nomatch e), Calls.callWith_builtin rfl (Calls.evalArgs_plain (Calls.spliced_cons (Calls.Constant_str (Calls.spliced_cons (Calls.Constant_str (Calls.spliced_nil ?_))))))⟩
  exact PySem.SC.replace (show s1.toks ≠ 0 by omega) (show s1.toks + 1 ≠ 0 by omega) (show s1.toks ≠ s1.toks + 1 by omega) hyz hb fun t' k => ⟨.str (Txt.replace a y z), H1, I1.tok k, ⟨t', rfl⟩, q⟩
/-- d.get(key) of a written dict with text keys -/
def tKGet (K : PySem.W.Frag) (d : Addr) (to te : TE) : TE := fun σ H Q => to σ H fun x H1 => x = .ref d ∧ te σ H1 fun y H2 => ∃ (z : Str) (r : Option Value) (v : V), y = .str z ∧ PySem.W.nsIn K d z = some r ∧ RelV v (r.getD .none) ∧ Q v H2
theorem pe_kget {d : Addr} {es : Array DictEntry} {n : Nat} {apos cpos : Pos} (D : KDict X.K X.w d es n) (ho : PE X o to) (he : PE X e te) (m : M1 X o "get" apos e cpos) : PE X (.Call (.Attribute o "get" apos) [e] [] cpos) (tKGet X.K d to te) := by
  refine ⟨fun pins s σ H Q I h => ?_⟩
  refine wpAny_Call_method m.base m.few m.line PySem.F.plainAttrs_dict PySem.F.slot_dict_get PySem.F.type_dict_get (thn (ho.run pins s σ H _ I h) fun u s1 ⟨x, H1, I1, rx, ex, q1⟩ => ?_)
  subst ex
  obtain rfl : u = Value.ref d := rx
  refine ⟨kd_type D I1, fun a ea => ?_, ?_⟩
  · cases ea
    exact ⟨_, I1.kIn _ _ D.at_, rfl⟩
  rw [m.trees]
  refine Calls.callWith_builtin rfl (Calls.evalArgs_plain (Calls.spliced_cons (thn (he.run pins s1 σ H1 _ I1 q1) fun iv s2 ⟨y, H2, I2, ry, z, r, v, ey, e, rv, q2⟩ => Calls.spliced_nil ?_)))
  subst ey
  obtain ⟨t, rfl⟩ := ry
  refine call_meetsIn PySem.F.slot_dict_get (kd_type D I2) PySem.F.entry_dict_get (PySem.F.args_dict_get_2 _ _) (meets_dict_get (PySem.strKind X.prog X.w) d (PySem.strKind_is X.prog X.w z t) D.low) ⟨_, PySem.W.mapOf_K (prog := X.prog) I2.kIn D.at_ D.lit, ?_⟩
  rw [PySem.W.find_K D.at_ e]
  exact ⟨v, H2, I2.tok _, rv, q2⟩
/-- x in (.., ..), the items data of any depth -/
def rInT (K : PySem.W.Frag) : R2 := fun x y H Q => ∃ d ds, Dp K H x d ∧ Dp K H y (.tuple ds) ∧ SeqAt.shaped d = true ∧ SeqAt.shaped (.tuple ds) = true ∧ d.depth ≤ 60 ∧ Q (.bl (ds.any fun z => PyData.eqv z d)) H
theorem op_inT (hu : X.A.units + 64 < cLine) : OpR X (compareOp .In) (rInT X.K) := by
  intro pins s σ H x y v u Q I rx ry h
  obtain ⟨d, ds, hd, he, sd, se, dl, q⟩ := h
  obtain ⟨as, r1⟩ := Dp.reads I d x v hd rx
  obtain ⟨bs, r2⟩ := Dp.reads I (.tuple ds) y u he ry
  exact SeqAt.in_tuple_reads r2 r1 (SeqAt.canLay_of_shaped se) (SeqAt.canLay_of_shaped sd) (by omega) ⟨.bl _, H, I, rfl, q⟩
end
section
variable {X : Cx} {a : Expr} {ta : TE}
def tTr (K' : PySem.W.Frag) (ta : TE) : TT := fun σ H Q => ta σ H fun x H1 => ∃ k, TruV K' x H1 k ∧ Q k H1
theorem pt_tr {K' : PySem.W.Frag} (ha : PE X a ta) (hK : X.K = K' := by rfl) (he : ∀ whole, isTrue a X.env whole = (do let v ← whole; standAt a.pos; holding [v] (truthy v)) := by intro _; rfl) : PT X a (tTr K' ta) := by
  subst hK
  exact pt_truth ha he
end

/-! ### a text times a number; pairs of texts -/
theorem op_repS {X : Cx} : OpR X (binaryOp .Mult) (fun x y H Q => ∃ (z : Str) (n : Int), x = .str z ∧ y = .int n ∧ MulOk z n ∧ Q (.str (Txt.mul z n)) H) := by
  intro pins s σ H x y v u Q I rx ry h
  obtain ⟨z, n, rfl, rfl, ok, q⟩ := h
  obtain ⟨t, rfl⟩ := rx
  obtain ⟨t', rfl⟩ := ry
  exact PySem.SB.mul ok fun t' k => ⟨.str (Txt.mul z n), H, I.tok _, ⟨_, rfl⟩, q⟩

/-! ### texts of lists of signs -/
def mk (l : List Nat) : Str := ⟨l.toArray⟩
theorem tl_mk' (l : List Nat) : tl (mk l) = l := rfl
theorem mk_tl' (x : Str) : mk (tl x) = x := ext_tl rfl
theorem mk_len (l : List Nat) : (mk l).length = l.length := by rw [len_tl]; rfl
theorem join_mk (y : List Nat) (ps : List (List Nat)) : Txt.join (mk y) (ps.map mk) = mk (joinL y ps) := by
  refine ext_tl ?_
  rw [join_eq, tl_join, List.map_map]
  show joinL y (ps.map (tl ∘ mk)) = joinL y ps
  have : (tl ∘ mk) = id := by
    funext l
    rfl
  rw [this, List.map_id]
theorem take_filter {α : Type} (p : α → Bool) {l : List α} {i : Nat} {a : α} (h : l[i]? = some a) : (l.take (i + 1)).filter p = (l.take i).filter p ++ (if p a then [a] else []) := by
  rw [List.take_add_one, h, List.filter_append]
  show _ ++ List.filter p [a] = _
  rw [List.filter_cons]
  rfl

/-! ### a text, sign by sign; texts joined -/
theorem for_str {x : Str} {g : TG} {tb : TS} {D : Ends} {σ : L2.St} {H : Hp} (Pv : Nat → L2.St → Hp → Prop) (h0 : Pv 0 σ H)
    (hs : ∀ i c σ H, (tl x)[i]? = some c → Pv i σ H → g (.str ⟨#[c]⟩) σ H fun σ2 H2 => tb { D with nx := Pv (i + 1), ct := Pv (i + 1), bk := D.nx } σ2 H2) (hd : ∀ σ H, Pv (tl x).length σ H → D.nx σ H) :
    ∃ W : Nat → Nat → L2.St → Hp → Prop, (∃ m, W 0 m σ H) ∧ ∀ i m σ H, W i m σ H →
      ((Its x).stop i H ∧ D.nx σ H) ∨ ((Its x).go i H ∧ ∃ N : L2.St → Hp → Prop, (∀ σ' H', N σ' H' → ∃ m', m' < m ∧ W (i + 1) m' σ' H') ∧ ∀ y H', (Its x).yld i H y H' → g y σ H' fun σ2 H2 => tb { D with nx := N, ct := N, bk := D.nx } σ2 H2) := by
  have sz : x.cps.size = (tl x).length := by simp [tl]
  refine ⟨fun i m σ H => m = (tl x).length - i ∧ i ≤ (tl x).length ∧ Pv i σ H, ⟨(tl x).length, by simp, Nat.zero_le _, h0⟩, ?_⟩
  rintro i m σ H ⟨rfl, hi, p⟩
  by_cases hlt : i < (tl x).length
  · refine .inr ⟨by show i < x.cps.size; omega, Pv (i + 1), fun σ' H' p' => ⟨(tl x).length - (i + 1), by omega, rfl, hlt, p'⟩, fun y H' z => ?_⟩
    obtain ⟨e, c, hc, ey⟩ := z
    subst e ey
    exact hs i c σ _ (by rw [← hc]; simp [tl]) p
  · have e : i = (tl x).length := by omega
    subst e
    exact .inl ⟨by show x.cps.size ≤ (tl x).length; omega, hd σ H p⟩
theorem len_join (y : Str) (m : Nat) : ∀ ws : List Str, (∀ w ∈ ws, w.length ≤ m) → (Txt.join y ws).length ≤ (m + y.length) * ws.length := by
  intro ws h
  rw [join_eq, len_tl, tl_join]
  have hy : y.length = (tl y).length := len_tl y
  induction ws with
  | nil => exact Nat.zero_le _
  | cons a r ih =>
    have ha : (tl a).length ≤ m := by
      rw [← len_tl]
      exact h a (List.mem_cons_self ..)
    have ihr := ih fun w hw => h w (List.mem_cons_of_mem _ hw)
    cases r with
    | nil =>
      show (tl a).length ≤ (m + y.length) * 1
      omega
    | cons b r =>
      show (tl a ++ (tl y ++ joinL (tl y) ((b :: r).map tl))).length ≤ _
      rw [List.length_append, List.length_append, List.length_cons (a := a), Nat.mul_succ]
      omega
theorem sum_len (m : Nat) : ∀ ws : List Str, (∀ w ∈ ws, w.length ≤ m) → (ws.map (·.length)).sum ≤ m * ws.length
  | [], _ => Nat.zero_le _
  | a :: r, h => by
    have ih := sum_len m r fun w hw => h w (List.mem_cons_of_mem _ hw)
    have ha := h a (List.mem_cons_self ..)
    rw [List.map_cons, List.sum_cons, List.length_cons, Nat.mul_succ]
    omega

/-! ### the source of draws -/
/-- a source of draws stands at D: its two lists at A and B, so many draws made -/
structure Drw (H : Hp) (D A B : Addr) (n : Int) : Prop where
  ex : ∃ (as bs : List Int) (c : Int), H D = some (.lst [.ref A, .int c, .ref B, .int n]) ∧ H A = some (.lst (as.map V.int)) ∧ H B = some (.lst (bs.map V.int))
  ab : A ≠ B
  pos : 0 ≤ n
/-- all but what a draw may change stands as it stood -/
def Kept (D A : Addr) (H H' : Hp) : Prop := ∀ b o, H b = some o → b ≠ D → b ≠ A → H' b = some o
theorem Kept.refl {D A : Addr} {H : Hp} : Kept D A H H := fun _ _ e _ _ => e
theorem Kept.trans {D A : Addr} {H H' H'' : Hp} (h : Kept D A H H') (k : Kept D A H' H'') : Kept D A H H'' := fun b o e n m => k b o (h b o e n m) n m
theorem Kept.of {D A : Addr} {H H' : Hp} (h : Same H H') : Kept D A H H' := fun b o e _ _ => h b o e
theorem Kept.upd {D A p : Addr} {o : HO} {H H' : Hp} (h : Kept D A H H') (hp : H p = none) : Kept D A H (L2.upd H' p o) := fun b x e n m => by
  rw [upd_ne (ne_of_none e hp)]
  exact h b x e n m
theorem Drw.same {H H' : Hp} {D A B : Addr} {n : Int} (h : Drw H D A B n) (k : Same H H') : Drw H' D A B n := by
  obtain ⟨⟨as, bs, c, h1, h2, h3⟩, h4, h5⟩ := h
  exact ⟨⟨as, bs, c, k _ _ h1, k _ _ h2, k _ _ h3⟩, h4, h5⟩
theorem Drw.tracked {H : Hp} {D A B : Addr} {n : Int} (h : Drw H D A B n) : (∃ o, H D = some o) ∧ (∃ o, H A = some o) ∧ ∃ o, H B = some o := by
  obtain ⟨⟨as, bs, c, h1, h2, h3⟩, h4, h5⟩ := h
  exact ⟨⟨_, h1⟩, ⟨_, h2⟩, ⟨_, h3⟩⟩
/-- a change at a third place -/
theorem Drw.upd {H : Hp} {D A B p : Addr} {o : HO} {n : Int} (h : Drw H D A B n) (hD : p ≠ D) (hA : p ≠ A) (hB : p ≠ B) : Drw (L2.upd H p o) D A B n := by
  obtain ⟨⟨as, bs, c, h1, h2, h3⟩, h4, h5⟩ := h
  exact ⟨⟨as, bs, c, by rw [upd_ne (Ne.symm hD)]; exact h1, by rw [upd_ne (Ne.symm hA)]; exact h2, by rw [upd_ne (Ne.symm hB)]; exact h3⟩, h4, h5⟩
theorem Drw.new {H : Hp} {D A B p : Addr} {o : HO} {n : Int} (h : Drw H D A B n) (hp : H p = none) : Drw (L2.upd H p o) D A B n := h.same (same_new hp)

theorem canLay_ints (ns : List Int) : PyData.canLayAll0 (ns.map PyData.int) = true := by
  induction ns with
  | nil => rfl
  | cons x r ih => simpa [PyData.canLayAll0, PyData.canLay0] using ih
theorem depth_ints (ns : List Int) : PyData.depthAll (ns.map PyData.int) ≤ 1 := by
  induction ns with
  | nil => simp [PyData.depthAll]
  | cons x r ih => simp [PyData.depthAll, PyData.depth]; omega
theorem shaped_ints (ns : List Int) : SeqAt.shaped (.list (ns.map PyData.int)) = true := by
  have h1 := canLay_ints ns
  have h2 := depth_ints ns
  simp [SeqAt.shaped, PyData.canLay0, PyData.depth, h1]
  omega
theorem dp_ints {K : PySem.W.Frag} {H : Hp} : ∀ (ns : List Int), DpAll K H (ns.map V.int) (ns.map PyData.int)
  | [] => .nil
  | x :: r => .cons (.int x) (dp_ints r)
theorem eqv_nil (ns : List Int) : PyData.eqv (.list (ns.map PyData.int)) (.list []) = ns.isEmpty := by
  cases ns <;> simp [PyData.eqv, PyData.eqvAll]

section
variable {P : Program} {w : World} {K : PySem.W.Frag} {mg : Str → Option Value} {base : Heap}
/-! ### _law_mixed -/
def sp_law_mixed : Sp := fun vs H Q _ => ∃ (s k : Int), vs = [.int s, .int k] ∧ 0 ≤ k ∧ k < 4194304 ∧ ∀ r, Q (.int r) H
theorem ok_law_mixed {f : Addr} {fd : FuncData} {dvs : List V} (F : Fn K "_law_mixed" s_law_mixed dvs f fd) (m_int : mg "int" = none) : FnOk P w K mg base CX0 1 f fd ["seed", "k"] (sp_law_mixed) := by
  refine Fn.okN F sc_law_mixed (fun vs H Q E h => ?_) (fun cdv A outer s H vs Q E hr h => ?_)
  · obtain ⟨_, _, rfl, _⟩ := h
    rfl
  · obtain ⟨x, y, rfl, y0, y1, k⟩ := h
    refine ⟨_, (pss_cons (ps_set (i := 2) sc_law_mixed.nd rfl (.inl rfl) (pe_op op_mod (pe_callTy call_int1 (by rfl) m_int (by decide +kernel) (pa_cons (pe_op op_pow (pe_op op_add (pe_op op_add (pe_op op_mod (pe_callTy call_int1 (by rfl) m_int (by decide +kernel) (pa_cons (pv 0) pa_nil)) pe_int) (pe_op op_mul pe_int (pv 1))) pe_int) pe_int) pa_nil)) pe_int))
      (pss_one (ps_ret (pe_op op_mod (pe_callTy call_int1 (by rfl) m_int (by decide +kernel) (pa_cons (pe_op op_pow (pe_op op_add (pe_op op_add (pe_op op_mul (pv 2) pe_int) (pe_op op_mul (pe_op op_mul pe_int (pv 1)) (pv 1))) pe_int) pe_int) pa_nil)) pe_int)))), ?_⟩
    have e1 : 0 ≤ x % 2147483647 := Int.emod_nonneg _ (by decide)
    have e2 : x % 2147483647 < 2147483647 := Int.emod_lt_of_pos _ (by decide)
    refine ⟨_, rfl, .inl ⟨x, rfl, _, _, rfl, rfl, (by show (0 : Int) < 2147483647; decide), _, rfl, _, _, rfl, rfl, .inl ⟨by decide, by decide⟩, _, _, rfl, rfl, _, _, rfl, rfl, _, _, rfl, rfl, ⟨by decide, by decide, ?_⟩, .inl ⟨_, rfl, _, _, rfl, rfl, (by show (0 : Int) < 2147483629; decide), ?_⟩⟩⟩
    · generalize x % 2147483647 = m at e1 e2
      omega
    have g1 : ∀ z : Int, 0 ≤ z % 2147483629 := fun z => Int.emod_nonneg _ (by decide)
    have g2 : ∀ z : Int, z % 2147483629 < 2147483629 := fun z => Int.emod_lt_of_pos _ (by decide)
    generalize hz : ((x % 2147483647 + 7919 * y + 104729) ^ (5 : Int).toNat) = z
    have z1 := g1 z
    have z2 := g2 z
    generalize z % 2147483629 = u at z1 z2
    have yy : 40503 * y * y ≤ 40503 * 4194304 * 4194304 := Int.mul_le_mul (by omega) (by omega) y0 (by decide)
    have yy0 : 0 ≤ 40503 * y * y := Int.mul_nonneg (by omega) y0
    refine ⟨_, rfl, _, _, rfl, rfl, .inl ⟨by omega, by omega⟩, _, rfl, _, _, rfl, rfl, .inl ⟨by decide, by decide⟩, _, rfl, _, _, rfl, rfl, .inl ⟨by omega, by omega⟩, _, _, rfl, rfl, _, _, rfl, rfl, _, _, rfl, rfl, ⟨by decide, by decide, ?_⟩, .inl ⟨_, rfl, _, _, rfl, rfl, (by show (0 : Int) < 1000000007; decide), ?_⟩⟩
    · generalize 40503 * y * y = q at yy yy0
      omega
    · exact k _
/-! ### _law_draws -/
def sp_law_draws (K : PySem.W.Frag) : Sp := fun vs H Q _ => ∃ (a : Addr) (ns : List Int), vs = [.ref a] ∧ SqL K H a (ns.map V.int) ∧ ns.length ≤ 63 ∧
  ∀ (H' : Hp) (D A B : Addr), Same H H' → Drw H' D A B 0 → H D = none → H A = none → Q (.ref D) H'
theorem ok_law_draws {f : Addr} {fd : FuncData} {dvs : List V} (F : Fn K "_law_draws" s_law_draws dvs f fd) : FnOk P w K mg base CX0 1 f fd ["script"] (sp_law_draws K) := by
  refine Fn.okN F sc_law_draws (fun vs H Q E h => ?_) (fun cdv A outer s H vs Q E hr h => ?_)
  · obtain ⟨_, _, rfl, _⟩ := h
    rfl
  · obtain ⟨a, ns, rfl, hS, hl, k⟩ := h
    refine ⟨_, (pss_one (ps_ret (pe_lst (pa_cons (pe_lc (own := [("item", 1)]) (g := gName 1) (by rfl) sc_law_draws.nd (pi_list (pv 0)) (blkOk_by (own := [("item", 1)]) (N := ["script", "item"]) (sc := defScope s_law_draws) (by decide +kernel)) (fun _ _ _ _ _ => (pg_name (i := 1) sc_law_draws.nd rfl (.inl rfl))) (fun _ _ _ _ _ => (pts_one (pt_cmpR op_ge (pv 1) (pe_op op_pow pe_int pe_int) (nomark _)))) (fun _ _ _ _ _ => (pv 1))) (pa_cons pe_int (pa_cons (pe_lc (own := [("item", 1)]) (g := gName 1) (by rfl) sc_law_draws.nd (pi_list (pv 0)) (blkOk_by (own := [("item", 1)]) (N := ["script", "item"]) (sc := defScope s_law_draws) (by decide +kernel)) (fun _ _ _ _ _ => (pg_name (i := 1) sc_law_draws.nd rfl (.inl rfl))) (fun _ _ _ _ _ => (pts_one (pt_cmpR op_lt (pv 1) (pe_op op_pow pe_int pe_int) (nomark _)))) (fun _ _ _ _ _ => (pv 1))) (pa_cons pe_int pa_nil))))))), ?_⟩
    refine ⟨_, rfl, a, rfl, ⟨_, hS⟩, fun A1 nA => lc_list (K := K) (a := a) (xs := ns.map V.int) (fun i H2 => ∃ acc : List Int, acc.length ≤ i ∧ H2 A1 = some (.lst (acc.map V.int)) ∧ Same H H2)
      ⟨[], Nat.le_refl _, upd_same, same_new nA⟩ (fun i H2 _ h2 => by obtain ⟨_, _, _, s2⟩ := h2; exact s2.seq hS) ?_ ?_⟩
    · rintro i x H2 hi ⟨acc, l2, e2, s2⟩
      obtain ⟨z, rfl⟩ := int_at hi
      have hil : i < (ns.map V.int).length := (List.getElem?_eq_some_iff.mp hi).1
      rw [List.length_map] at hil
      refine ⟨rfl, _, rfl, _, _, rfl, rfl, ⟨by decide, by decide, by decide⟩, _, _, rfl, rfl, _, rfl, ite2 (fun _ => ?_) (fun _ => ?_)⟩
      · refine ⟨_, rfl, _, e2, by rw [List.length_map]; exact small1000 (by omega), acc ++ [z], by rw [List.length_append]; exact Nat.succ_le_succ l2, ?_, fun b o e => ?_⟩
        · rw [upd_same, List.map_append]
          rfl
        · rw [upd_ne (ne_of_none e nA)]
          exact s2 b o e
      · exact ⟨acc, by omega, e2, s2⟩
    · rintro H2 ⟨as, l2, e2, s2⟩
      refine ⟨_, rfl, a, rfl, ⟨_, s2.seq hS⟩, fun B1 nB => lc_list (K := K) (a := a) (xs := ns.map V.int) (fun i H3 => ∃ acc : List Int, acc.length ≤ i ∧ H3 B1 = some (.lst (acc.map V.int)) ∧ Same H2 H3)
        ⟨[], Nat.le_refl _, upd_same, same_new nB⟩ (fun i H3 _ h3 => by obtain ⟨_, _, _, s3⟩ := h3; exact (s2.trans s3).seq hS) ?_ ?_⟩
      · rintro i x H3 hi ⟨acc, l3, e3, s3⟩
        obtain ⟨z, rfl⟩ := int_at hi
        have hil : i < (ns.map V.int).length := (List.getElem?_eq_some_iff.mp hi).1
        rw [List.length_map] at hil
        refine ⟨rfl, _, rfl, _, _, rfl, rfl, ⟨by decide, by decide, by decide⟩, _, _, rfl, rfl, _, rfl, ite2 (fun _ => ?_) (fun _ => ?_)⟩
        · refine ⟨_, rfl, _, e3, by rw [List.length_map]; exact small1000 (by omega), acc ++ [z], by rw [List.length_append]; exact Nat.succ_le_succ l3, ?_, fun b o e => ?_⟩
          · rw [upd_same, List.map_append]
            rfl
          · rw [upd_ne (ne_of_none e nB)]
            exact s3 b o e
        · exact ⟨acc, by omega, e3, s3⟩
      · rintro H3 ⟨bs, l3, e3, s3⟩
        have eA := s3 _ _ e2
        have nAB : A1 ≠ B1 := ne_of_none e2 nB
        refine ⟨by show 4 ≤ sizeLine; decide, fun D1 nD => ?_⟩
        have s4 := same_new (o := .lst [.ref A1, .int 0, .ref B1, .int 0]) nD
        refine k _ D1 A1 B1 (s2.trans (s3.trans s4)) ⟨⟨as, bs, 0, upd_same, s4 _ _ eA, s4 _ _ e3⟩, nAB, Int.le_refl _⟩ ((s2.trans s3).free nD) nA
/-! ### _law_take -/
def sp_law_take : Sp := fun vs H Q _ => ∃ (D A B : Addr) (n size : Int), vs = [.ref D, .int size] ∧ Drw H D A B n ∧ n < 1000000 ∧ 1 ≤ size ∧ size < 1073741824 ∧
  ∀ (r : Int) (H' : Hp), 0 ≤ r → r < size → Drw H' D A B (n + 1) → Kept D A H H' → Q (.int r) H'
/-- within a draw -/
structure Mids (H : Hp) (D A B : Addr) (m : Int) (H1 : Hp) : Prop where
  ex : ∃ (as bs : List Int) (c : Int), H1 D = some (.lst [.ref A, .int c, .ref B, .int m]) ∧ H1 A = some (.lst (as.map V.int)) ∧ H1 B = some (.lst (bs.map V.int))
  kp : Kept D A H H1
theorem ok_law_take {f : Addr} {fd : FuncData} {dvs : List V} (F : Fn K "_law_take" s_law_take dvs f fd) (O_law_mixed : Own P w K mg base "_law_mixed" 1 ["seed", "k"] [] (sp_law_mixed)) (m_int : mg "int" = none) (m_len : mg "len" = none) : FnOk P w K mg base CX0 2 f fd ["draws", "size"] (sp_law_take) := by
  refine Fn.okN F sc_law_take (fun vs H Q E h => ?_) (fun cdv A outer s H vs Q E hr h => ?_)
  · obtain ⟨_, _, _, _, _, rfl, _⟩ := h
    rfl
  · obtain ⟨D, A1, B, n, size, rfl, ⟨⟨as, bs, c, hD, hA, hB⟩, nAB, n0⟩, hn, z0, z1, k⟩ := h
    refine ⟨_, (pss_cons (ps_asg (pe_op op_add (pe_ix ix_list (pv 0) pe_int (fun _ _ => rfl)) pe_int) (pg_sub (pv 0) pe_int set_list))
      (pss_cut (ps_if (PW.pt (pw_and (pt_cmpR op_eq (pe_ix ix_list (pv 0) pe_int (fun _ _ => rfl)) pe_int (nomark _)) (pw_and1 (pt_cmpR (op_neD hr.units) (pe_ix ix_list (pv 0) pe_int (fun _ _ => rfl)) (pe_lst pa_nil) (nomark _)))))
          (pss_one (ps_asg (pe_bm PySem.F.plainAttrs_list PySem.F.slot_list_pop PySem.F.type_list_pop mt_popAt (pe_ix ix_list (pv 0) pe_int (fun _ _ => rfl)) (pa_cons pe_int pa_nil)) (pg_sub (pv 0) pe_int set_list)))
          pss_nil)
      (pss_cons (ps_if (pt_cmpR op_gt (pe_ix ix_list (pv 0) pe_int (fun _ _ => rfl)) pe_int (nomark _))
          (pss_cons (ps_set (i := 2) sc_law_take.nd rfl (.inl rfl) (pe_op op_mod (pe_callTy call_int1 (by rfl) m_int (by decide +kernel) (pa_cons (pe_ix ix_list (pv 0) pe_int (fun _ _ => rfl)) pa_nil)) (pv 1)))
            (pss_cons (ps_asg (pe_op op_fdivN (pe_ix ix_list (pv 0) pe_int (fun _ _ => rfl)) (pv 1)) (pg_sub (pv 0) pe_int set_list))
            (pss_one (ps_ret (pv 2)))))
          pss_nil)
      (pss_cons (ps_set (i := 3) sc_law_take.nd rfl (.inl rfl) pe_int)
      (pss_cut (ps_if (pt_cmpR (op_neD hr.units) (pe_ix ix_list (pv 0) pe_int (fun _ _ => rfl)) (pe_lst pa_nil) (nomark _))
          (pss_one (ps_set (i := 3) sc_law_take.nd rfl (.inl rfl) (pe_ix ix_list (pe_ix ix_list (pv 0) pe_int (fun _ _ => rfl)) (pe_op op_mod (pe_callTy call_int1 (by rfl) m_int (by decide +kernel) (pa_cons (pe_ix ix_list (pv 0) pe_int (fun _ _ => rfl)) pa_nil)) (pe_callB call_len_seq (by rfl) m_len PySem.boot_len (pa_cons (pe_ix ix_list (pv 0) pe_int (fun _ _ => rfl)) pa_nil))) (fun _ _ => rfl))))
          pss_nil)
      (pss_cons (ps_set (i := 2) sc_law_take.nd rfl (.inl rfl) pe_int)
      (pss_cons (ps_set (i := 4) sc_law_take.nd rfl (.inl rfl) pe_int)
      (pss_cons (ps_while PassesOwn.never (pt_cmpR op_lt (pv 4) (pv 1) (nomark _))
          (pss_cons (ps_set (i := 2) sc_law_take.nd rfl (.inl rfl) (pe_op op_add (pe_op op_mul (pv 2) pe_int) (pe_own O_law_mixed (hr.mono (by decide)) (by rfl) (pa_cons (pv 3) (pa_cons (pe_op op_add (pe_ix ix_list (pv 0) pe_int (fun _ _ => rfl)) (pe_op op_mul pe_int (pe_op op_mod (pe_callTy call_int1 (by rfl) m_int (by decide +kernel) (pa_cons (pv 2) pa_nil)) pe_int))) pa_nil)))))
            (pss_one (ps_set (i := 4) sc_law_take.nd rfl (.inl rfl) (pe_op op_mul (pv 4) pe_int)))))
      (pss_one (ps_ret (pe_op op_mod (pe_callTy call_int1 (by rfl) m_int (by decide +kernel) (pa_cons (pv 2) pa_nil)) (pv 1)))))))))))), ?_⟩
    have nDA : D ≠ A1 := fun e => by
      rw [e, hA] at hD
      cases as <;> cases hD
    have nDB : D ≠ B := fun e => by
      rw [e, hB] at hD
      cases bs <;> cases hD
    -- one more draw
    refine ⟨.ref D, rfl, D, _, 3, .int n, rfl, rfl, SqL.of hD, atI_nat (j := 3) rfl, n, 1, rfl, rfl, .ref D, rfl, D, _, 3, 3, rfl, rfl, hD, rfl, ?_⟩
    have hD1 : (upd H D (.lst ([V.ref A1, .int c, .ref B, .int n].set 3 (.int (n + 1))))) D = some (.lst [V.ref A1, .int c, .ref B, .int (n + 1)]) := upd_same
    have hA1 : (upd H D (.lst ([V.ref A1, .int c, .ref B, .int n].set 3 (.int (n + 1))))) A1 = some (.lst (as.map V.int)) := by rw [upd_ne nDA.symm]; exact hA
    have hB1 : (upd H D (.lst ([V.ref A1, .int c, .ref B, .int n].set 3 (.int (n + 1))))) B = some (.lst (bs.map V.int)) := by rw [upd_ne nDB.symm]; exact hB
    have k1 : Kept D A1 H (upd H D (.lst ([V.ref A1, .int c, .ref B, .int n].set 3 (.int (n + 1))))) := fun b o e n1 _ => by rw [upd_ne n1]; exact e
    generalize upd H D (.lst ([V.ref A1, .int c, .ref B, .int n].set 3 (.int (n + 1)))) = H1 at hD1 hA1 hB1 k1
    clear hD hA hB
    -- the next of the great cells
    refine ⟨fun σ H2 => σ = [some (.ref D), some (.int size), none, none, none] ∧ Mids H D A1 B (n + 1) H2, ?_, ?_⟩
    · refine ⟨.ref D, rfl, D, _, 1, .int c, rfl, rfl, SqL.of hD1, atI_nat (j := 1) rfl, rfl, _, rfl, ?_⟩
      refine ite2 (fun _ => ?_) (fun _ => ?_)
      · refine ⟨.ref D, rfl, D, _, 0, .ref A1, rfl, rfl, SqL.of hD1, atI_nat (j := 0) rfl, by decide, fun N1 nN => ?_⟩
        have s2 := same_new (o := .lst []) nN
        refine ⟨_, _, .lst (SqL.of (s2 _ _ hA1)) (dp_ints as), .lst (SqL.of upd_same) .nil, shaped_ints as, shaped_ints [], _, rfl, ?_⟩
        rw [eqv_nil]
        cases as with
        | nil => exact iteF ⟨rfl, ⟨[], bs, c, s2 _ _ hD1, s2 _ _ hA1, s2 _ _ hB1⟩, fun b o e n1 n2 => s2 _ _ (k1 b o e n1 n2)⟩
        | cons a r =>
          refine iteT ?_
          refine ⟨.ref D, rfl, D, _, 0, .ref A1, rfl, rfl, SqL.of (s2 _ _ hD1), atI_nat (j := 0) rfl, .inl ⟨rfl, _, SqL.of (s2 _ _ hA1)⟩, A1, _, 0, 0, .int a, rfl, rfl, s2 _ _ hA1, by decide, by decide, ?_, rfl, ?_⟩
          · refine (ixN_seq (j := 0) ?_).1
            unfold ixN
            rw [if_pos (by decide), if_pos (by rw [List.length_map, List.length_cons]; omega)]
            rfl
          · refine ⟨.ref D, rfl, D, _, 1, 1, rfl, rfl, by rw [upd_ne nDA]; exact s2 _ _ hD1, rfl, rfl, ⟨r, bs, a, upd_same, ?_, ?_⟩, fun b o e n1 n2 => ?_⟩
            · rw [upd_ne nDA.symm, upd_same]
              rfl
            · rw [upd_ne nDB.symm, upd_ne nAB.symm]
              exact s2 _ _ hB1
            · rw [upd_ne n1, upd_ne n2]
              exact s2 _ _ (k1 b o e n1 n2)
      · exact ⟨rfl, ⟨as, bs, c, hD1, hA1, hB1⟩, k1⟩
    rintro σ2 H2 ⟨rfl, ⟨as2, bs2, c2, hD2, hA2, hB2⟩, k2⟩
    clear hD1 hA1 hB1 k1
    -- digits of a great cell
    refine ⟨.ref D, rfl, D, _, 1, .int c2, rfl, rfl, SqL.of hD2, atI_nat (j := 1) rfl, _, _, rfl, rfl, _, rfl, ite2 (fun _ => ?_) (fun _ => ?_)⟩
    · refine ⟨.ref D, rfl, D, _, 1, .int c2, rfl, rfl, SqL.of hD2, atI_nat (j := 1) rfl, .inl ⟨c2, rfl, _, rfl, _, _, rfl, rfl, (by show (0 : Int) < size; omega), ?_⟩⟩
      refine ⟨.ref D, rfl, D, _, 1, .int c2, rfl, rfl, SqL.of hD2, atI_nat (j := 1) rfl, _, rfl, c2, size, rfl, rfl, ⟨by omega, by omega⟩, .ref D, rfl, D, _, 1, 1, rfl, rfl, hD2, rfl, ?_⟩
      refine ⟨_, rfl, ?_⟩
      refine k _ _ (Int.emod_nonneg _ (by omega)) (Int.emod_lt_of_pos _ (by omega)) ⟨⟨as2, bs2, c2.fdiv size, upd_same, ?_, ?_⟩, nAB, by omega⟩ (fun b o e n1 n2 => ?_)
      · rw [upd_ne nDA.symm]
        exact hA2
      · rw [upd_ne nDB.symm]
        exact hB2
      · rw [upd_ne n1]
        exact k2 b o e n1 n2
    -- a seed
    refine ⟨fun σ H3 => ∃ sd : Int, σ = [some (.ref D), some (.int size), none, some (.int sd), none] ∧ Mids H D A1 B (n + 1) H3, ?_, ?_⟩
    · refine ⟨.ref D, rfl, D, _, 2, .ref B, rfl, rfl, SqL.of hD2, atI_nat (j := 2) rfl, by decide, fun N1 nN => ?_⟩
      have s3 := same_new (o := .lst []) nN
      refine ⟨_, _, .lst (SqL.of (s3 _ _ hB2)) (dp_ints bs2), .lst (SqL.of upd_same) .nil, shaped_ints bs2, shaped_ints [], _, rfl, ?_⟩
      rw [eqv_nil]
      have M3 : Mids H D A1 B (n + 1) (upd H2 N1 (.lst [])) := ⟨⟨as2, bs2, c2, s3 _ _ hD2, s3 _ _ hA2, s3 _ _ hB2⟩, fun b o e n1 n2 => s3 _ _ (k2 b o e n1 n2)⟩
      cases bs2 with
      | nil => exact iteF ⟨17, rfl, M3⟩
      | cons b r =>
        refine iteT ?_
        have hp : (0 : Int) < (((b :: r).map V.int).length : Int) := by
          rw [List.length_map, List.length_cons]
          omega
        have m0 := Int.emod_nonneg (n + 1) (show (((b :: r).map V.int).length : Int) ≠ 0 by omega)
        have m1 := Int.emod_lt_of_pos (n + 1) hp
        obtain ⟨j, hj⟩ : ∃ j : Nat, (n + 1) % (((b :: r).map V.int).length : Int) = (j : Int) := ⟨_, (Int.toNat_of_nonneg m0).symm⟩
        have jl : j < (b :: r).length := by
          rw [hj, List.length_map] at m1
          omega
        refine ⟨.ref D, rfl, D, _, 2, .ref B, rfl, rfl, SqL.of (s3 _ _ hD2), atI_nat (j := 2) rfl, .ref D, rfl, D, _, 3, .int (n + 1), rfl, rfl, SqL.of (s3 _ _ hD2), atI_nat (j := 3) rfl, .inl ⟨n + 1, rfl, .ref D, rfl, D, _, 2, .ref B, rfl, rfl, SqL.of (s3 _ _ hD2), atI_nat (j := 2) rfl, B, _, rfl, .inl (SqL.of (s3 _ _ hB2)), _, _, rfl, rfl, hp, ?_⟩⟩
        refine ⟨B, _, _, .int ((b :: r)[j]'jl), rfl, rfl, SqL.of (s3 _ _ hB2), ?_, ⟨_, rfl, M3⟩⟩
        rw [hj]
        refine atI_nat ?_
        rw [List.getElem?_map, List.getElem?_eq_getElem jl]
        rfl
    rintro σ3 H3 ⟨sd, rfl, M3⟩
    obtain ⟨⟨as3, bs3, c3, hD3, hA3, hB3⟩, k3⟩ := id M3
    -- the loop
    refine while_by (fun σ H4 => ∃ fd rc : Int, σ = [some (.ref D), some (.int size), some (.int fd), some (.int sd), some (.int rc)] ∧ H4 = H3 ∧ 1 ≤ rc) (fun σ _ => match σ with | [_, _, _, _, some (.int rc)] => (size - rc).toNat | _ => 0) ⟨0, 1, rfl, rfl, by decide⟩ ?_ ?_
    · rintro σ H4 ⟨fd, rc, rfl, rfl, r1⟩
      refine ⟨_, rfl, _, rfl, _, _, rfl, rfl, _, rfl, ite2 (fun lt => ?_) (fun _ => ?_)⟩
      · have lt' : rc < size := of_decide_eq_true lt
        have q0 : 0 ≤ fd % 97 := Int.emod_nonneg _ (by decide)
        have q1 : fd % 97 < 97 := Int.emod_lt_of_pos _ (by decide)
        refine ⟨_, rfl, _, _, rfl, rfl, .inr ⟨by decide, by decide⟩, _, rfl, .ref D, rfl, D, _, 3, .int (n + 1), rfl, rfl, SqL.of hD3, atI_nat (j := 3) rfl, _, rfl, .inl ⟨_, rfl, _, _, rfl, rfl, (by show (0 : Int) < 97; decide), _, _, rfl, rfl, .inl ⟨by decide, by decide⟩, _, _, rfl, rfl, _, _, rfl, ?_, ?_, fun r => ?_⟩⟩
        · generalize fd % 97 = q at q0 q1
          omega
        · generalize fd % 97 = q at q0 q1
          omega
        · refine ⟨_, _, rfl, rfl, _, rfl, _, _, rfl, rfl, .inr ⟨by decide, by decide⟩, ⟨_, _, rfl, rfl, by omega⟩, ?_⟩
          show (size - rc * 1000000007).toNat < (size - rc).toNat
          omega
      · refine ⟨_, rfl, .inl ⟨_, rfl, _, rfl, _, _, rfl, rfl, (by show (0 : Int) < size; omega), ?_⟩⟩
        exact k _ _ (Int.emod_nonneg _ (by omega)) (Int.emod_lt_of_pos _ (by omega)) ⟨⟨as3, bs3, c3, hD3, hA3, hB3⟩, nAB, by omega⟩ k3
    · rintro σ H4 Q1 Q2 i ⟨v, e1, w, e2, i1, j1, e3, e4, b, e5, q⟩
      exact ⟨v, e1, w, e2, i1, j1, e3, e4, b, e5, i _ _ q⟩

/-! ### _law_pick -/
/-- a list or a tuple that no draw touches -/
def SeqO (H : Hp) (p : Addr) (xs : List V) : Prop := H p = some (.lst xs) ∨ H p = some (.tup xs)
theorem SeqO.same {H H' : Hp} {p : Addr} {xs : List V} (h : SeqO H p xs) (k : Same H H') : SeqO H' p xs := h.elim (fun e => .inl (k _ _ e)) (fun e => .inr (k _ _ e))
theorem SeqO.kept {H H' : Hp} {p D A : Addr} {xs : List V} (h : SeqO H p xs) (k : Kept D A H H') (n1 : p ≠ D) (n2 : p ≠ A) : SeqO H' p xs := h.elim (fun e => .inl (k _ _ e n1 n2)) (fun e => .inr (k _ _ e n1 n2))
def sp_law_pick : Sp := fun vs H Q _ => ∃ (D A B p : Addr) (n : Int) (xs : List V), vs = [.ref D, .ref p] ∧ Drw H D A B n ∧ n < 1000000 ∧ SeqO H p xs ∧ p ≠ D ∧ p ≠ A ∧ 1 ≤ xs.length ∧ xs.length < 1000000 ∧
  ∀ (i : Nat) (v : V) (H' : Hp), xs[i]? = some v → Drw H' D A B (n + 1) → Kept D A H H' → Q v H'
theorem ok_law_pick {f : Addr} {fd : FuncData} {dvs : List V} (F : Fn K "_law_pick" s_law_pick dvs f fd) (O_law_take : Own P w K mg base "_law_take" 2 ["draws", "size"] [] (sp_law_take)) (m_len : mg "len" = none) : FnOk P w K mg base CX0 3 f fd ["draws", "some"] (sp_law_pick) := by
  refine Fn.okN F sc_law_pick (fun vs H Q E h => ?_) (fun cdv A outer s H vs Q E hr h => ?_)
  · obtain ⟨_, _, _, _, _, _, rfl, _⟩ := h
    rfl
  · obtain ⟨D, A1, B, p, n, xs, rfl, dr, hn, hp, pD, pA, l0, l1, k⟩ := h
    refine ⟨_, (pss_one (ps_ret (pe_ix ix_seq (pv 1) (pe_own O_law_take (hr.mono (by decide)) (by rfl) (pa_cons (pv 0) (pa_cons (pe_callB call_len_seq (by rfl) m_len PySem.boot_len (pa_cons (pv 1) pa_nil)) pa_nil))) (fun _ _ => rfl)))), ?_⟩
    refine ⟨.ref p, rfl, .ref D, rfl, .ref p, rfl, p, xs, rfl, hp.elim (fun e => .inl (SqL.of e)) (fun e => .inr (SqT.of e)), D, A1, B, n, (xs.length : Int), rfl, dr, hn, by omega, by omega, fun r H' r0 r1 dr' kp => ?_⟩
    obtain ⟨j, rfl⟩ : ∃ j : Nat, r = (j : Int) := ⟨_, (Int.toNat_of_nonneg r0).symm⟩
    have jl : j < xs.length := by omega
    have g : xs[j]? = some xs[j] := List.getElem?_eq_getElem jl
    rcases hp.kept kp pD pA with e | e
    · exact .inl ⟨p, xs, (j : Int), xs[j], rfl, rfl, SqL.of e, atI_nat g, k j _ _ g dr' kp⟩
    · exact .inr (.inl ⟨p, xs, (j : Int), xs[j], rfl, rfl, SqT.of e, atI_nat g, k j _ _ g dr' kp⟩)
end

/-! ### the mathematics of the stages, over lists of signs -/
/-- nothing but blanks -/
def isBlank (l : List Nat) : Bool := l.all fun c => c == 32 || c == 9
def MK : List Nat := [60, 66, 76, 65, 78, 75, 76, 73, 78, 69, 62]
def isMark (l : List Nat) : Bool := pre MK l && isBlank (l.drop 11)
def marksOf (w : List Nat) : List Nat := joinL [10] ((spl [10] 0 [] w).map fun l => if isMark l then [] else l)
def blanksOf (g : List Nat) : List Nat := joinL [10] ((spl [10] 0 [] g).map fun l => if isBlank l then [] else l)
def wordsOf (t : List Nat) : List Nat := joinL [32] ((spl [32] 0 [] (t.map fun c => if c == 9 || c == 10 then 32 else c)).filter fun w => !w.isEmpty)
theorem emptyEq (l : List Nat) : l.isEmpty = (l.length == 0) := by cases l <;> rfl

theorem joinL_len (S : List Nat) : ∀ {ps : List (List Nat)}, ps ≠ [] → (joinL S ps).length + S.length = (ps.map (·.length)).sum + ps.length * S.length
  | [], h => absurd rfl h
  | [p], _ => by
    show p.length + S.length = p.length + 0 + (0 + 1) * S.length
    omega
  | p :: q :: r, _ => by
    have ih := joinL_len S (ps := q :: r) (by simp)
    show (p ++ (S ++ joinL S (q :: r))).length + S.length = p.length + ((q :: r).map (·.length)).sum + ((q :: r).length + 1) * S.length
    rw [List.length_append, List.length_append, Nat.succ_mul]
    omega
theorem spl_ne (S : List Nat) : ∀ (k : Nat) (acc l : List Nat), spl S k acc l ≠ []
  | k, acc, [] => by rw [spl_nil]; simp
  | 0, acc, c :: r => by
    cases h : pre S (c :: r) with
    | true => rw [spl_hit h]; simp
    | false => rw [spl_miss h]; exact spl_ne S 0 _ r
  | k + 1, acc, _ :: r => spl_ne S k acc r
theorem small_kind {y : List Nat} (h : y.all (· < 256) = true) (x : Str) : ¬ Builtin.Str.strKind x < Builtin.Str.strKind ⟨y.toArray⟩ := kind_ok (by simpa using h)
theorem splitOf (x : Str) {y : List Nat} (hy : y ≠ []) (h : y.all (· < 256) = true) : (Txt.split x ⟨y.toArray⟩).map tl = spl y 0 [] (tl x) := split_spl x ⟨y.toArray⟩ hy (small_kind h x)
theorem joinL_spl (l : List Nat) {y : List Nat} (hy : y ≠ []) (h : y.all (· < 256) = true) : joinL y (spl y 0 [] l) = l := by
  have e := StrLaws.join_split (⟨l.toArray⟩ : Str) ⟨y.toArray⟩
  have e2 := congrArg tl e
  rw [tl_join, splitOf _ hy h] at e2
  exact e2
/-- of the parts: how long they are together, and how many -/
theorem spl_sizes (l : List Nat) {y : List Nat} (hy : y ≠ []) (h : y.all (· < 256) = true) : ((spl y 0 [] l).map (·.length)).sum ≤ l.length ∧ (spl y 0 [] l).length ≤ l.length + 1 := by
  have e := joinL_len y (spl_ne y 0 [] l)
  rw [joinL_spl l hy h] at e
  have hp : 1 ≤ y.length := List.length_pos_iff.mpr hy
  have hn : 1 ≤ (spl y 0 [] l).length := List.length_pos_iff.mpr (spl_ne y 0 [] l)
  generalize (spl y 0 [] l).length = n at e hn
  generalize ((spl y 0 [] l).map (·.length)).sum = s at e
  obtain ⟨m, rfl⟩ : ∃ m, n = m + 1 := ⟨n - 1, by omega⟩
  rw [Nat.succ_mul] at e
  have hm : m ≤ m * y.length := Nat.le_mul_of_pos_right m hp
  omega
theorem sum_map_le {α : Type} (f g : α → Nat) : ∀ (l : List α), (∀ x ∈ l, f x ≤ g x) → (l.map f).sum ≤ (l.map g).sum
  | [], _ => Nat.le_refl _
  | x :: r, h => by
    have h1 := h x (List.mem_cons_self ..)
    have h2 := sum_map_le f g r fun y hy => h y (List.mem_cons_of_mem _ hy)
    rw [List.map_cons, List.map_cons, List.sum_cons, List.sum_cons]
    omega
theorem map_lines_len (f : List Nat → List Nat) (hf : ∀ l, (f l).length ≤ l.length) (l : List Nat) {y : List Nat} (hy : y ≠ []) (h : y.all (· < 256) = true) : (joinL y ((spl y 0 [] l).map f)).length ≤ l.length := by
  have e := joinL_len y (spl_ne y 0 [] l)
  rw [joinL_spl l hy h] at e
  have e2 := joinL_len y (ps := (spl y 0 [] l).map f) (by simpa using spl_ne y 0 [] l)
  rw [List.length_map, List.map_map] at e2
  have e3 := sum_map_le (fun x => (f x).length) (fun x => x.length) (spl y 0 [] l) fun x _ => hf x
  have e4 : ((spl y 0 [] l).map ((fun x => x.length) ∘ f)).sum = ((spl y 0 [] l).map fun x => (f x).length).sum := rfl
  omega
theorem marks_len (w : List Nat) : (marksOf w).length ≤ w.length := map_lines_len _ (fun l => by split <;> simp) w (by simp) (by decide)
theorem blanks_len (w : List Nat) : (blanksOf w).length ≤ w.length := map_lines_len _ (fun l => by split <;> simp) w (by simp) (by decide)
theorem filter_sum (p : List Nat → Bool) : ∀ ps : List (List Nat), ((ps.filter p).map (·.length)).sum ≤ (ps.map (·.length)).sum
  | [] => Nat.le_refl _
  | x :: r => by
    have ih := filter_sum p r
    rw [List.filter_cons]
    split
    · rw [List.map_cons, List.map_cons, List.sum_cons, List.sum_cons]
      omega
    · rw [List.map_cons, List.sum_cons]
      omega
theorem words_len (t : List Nat) : (wordsOf t).length ≤ t.length := by
  unfold wordsOf
  generalize hu : (t.map fun c => if c == 9 || c == 10 then 32 else c) = u
  have lu : u.length = t.length := by rw [← hu, List.length_map]
  have e := joinL_len [32] (spl_ne [32] 0 [] u)
  rw [joinL_spl u (by simp) (by decide)] at e
  have l1 : ([32] : List Nat).length = 1 := rfl
  generalize hq : (spl [32] 0 [] u).filter (fun w => !w.isEmpty) = q
  have hs : (q.map (·.length)).sum ≤ ((spl [32] 0 [] u).map (·.length)).sum := by rw [← hq]; exact filter_sum _ _
  have hl : q.length ≤ (spl [32] 0 [] u).length := by rw [← hq]; exact List.length_filter_le _ _
  cases q with
  | nil => exact Nat.zero_le _
  | cons a r =>
    have e2 := joinL_len [32] (ps := a :: r) (by simp)
    rw [l1] at e e2
    omega

/-! ### stripping leaves nothing just of a blank text -/
theorem strip_blank (x : Str) (goes : Nat → Bool) : ((Txt.stripBy goes true true x).length = 0) ↔ (tl x).all goes = true := by
  rw [stripBy_eq]
  obtain ⟨h1, h2, h3⟩ := lo_facts goes x
  obtain ⟨g1, g2, g3, g4⟩ := hi_facts goes x (stripLo goes true x) h1
  have hl : (Builtin.Str.strSub x (stripLo goes true x) (stripHi goes true x (stripLo goes true x))).length = stripHi goes true x (stripLo goes true x) - stripLo goes true x := by
    rw [len_tl, tl_strSub, List.length_take, List.length_drop, ← len_tl]
    omega
  rw [hl]
  have get : ∀ k, k < x.length → x.cps.getD k 0 ∈ tl x := fun k hk => by
    have hk' : k < x.cps.size := hk
    simp [tl, Array.getD, hk']
  constructor
  · intro h
    rw [List.all_eq_true]
    intro c hc
    obtain ⟨k, hk, e⟩ := List.getElem_of_mem hc
    have hkx : k < x.length := by rw [len_tl]; exact hk
    have e2 : x.cps.getD k 0 = c := by
      have hk' : k < x.cps.size := hkx
      rw [← e]
      simp [tl, Array.getD, hk']
    rw [← e2]
    by_cases hk2 : k < stripLo goes true x
    · exact h2 k hk2
    · exact g3 k (by omega) hkx
  · intro h
    rw [List.all_eq_true] at h
    rcases h3 with e | e
    · omega
    · by_cases hlt : stripLo goes true x < x.length
      · rw [h _ (get _ hlt)] at e
        cases e
      · omega
theorem blank_strip (x : Str) : ((Txt.stripChars x ⟨#[32, 9]⟩).length = 0) ↔ isBlank (tl x) = true := by
  unfold Txt.stripChars
  rw [strip_blank]
  unfold isBlank
  have e : (fun c => (#[32, 9] : Array Nat).contains c) = fun c => (c == 32 || c == 9) := by
    funext c
    rw [Bool.eq_iff_iff, Array.contains_iff_mem]
    simp
  show (tl x).all (fun c => (#[32, 9] : Array Nat).contains c) = true ↔ _
  rw [e]
theorem starts_pre (x : Str) {y : List Nat} (hy : y ≠ []) : Txt.startswith x ⟨y.toArray⟩ = pre y (tl x) := by
  unfold Txt.startswith
  rw [Nat.zero_add]
  have h := at_iff (x := x) (y := ⟨y.toArray⟩) hy 0
  rw [List.drop_zero] at h
  unfold StrLaws.At at h
  rw [Nat.zero_add] at h
  rw [Bool.eq_iff_iff, Bool.and_eq_true, decide_eq_true_eq]
  exact h

/-! ### slices of texts -/
theorem cutS_from (z : Str) (k : Nat) : tl (cutS z (some (k : Int)) none) = (tl z).drop k := by
  show (z.cps.toList.drop (HT.sIx z.length 0 (some (k : Int)))).take (HT.sIx z.length z.length none - HT.sIx z.length 0 (some (k : Int))) = z.cps.toList.drop k
  have hl : z.cps.toList.length = z.length := (len_tl z).symm
  rw [HT.sIx_nat, HT.sIx_none]
  by_cases h : k ≤ z.length
  · rw [Nat.min_eq_left h]
    exact List.take_of_length_le (by rw [List.length_drop]; omega)
  · rw [Nat.min_eq_right (by omega), List.drop_of_length_le (by omega), List.drop_of_length_le (by omega)]
    simp
theorem cutS_to (z : Str) (k : Nat) : tl (cutS z none (some (k : Int))) = (tl z).take k := by
  show (z.cps.toList.drop (HT.sIx z.length 0 none)).take (HT.sIx z.length z.length (some (k : Int)) - HT.sIx z.length 0 none) = z.cps.toList.take k
  have hl : z.cps.toList.length = z.length := (len_tl z).symm
  rw [HT.sIx_nat, HT.sIx_none, List.drop_zero, Nat.sub_zero]
  by_cases h : k ≤ z.length
  · rw [Nat.min_eq_left h]
  · rw [Nat.min_eq_right (by omega), List.take_of_length_le (by omega), List.take_of_length_le (by omega)]
theorem cutS_mid (z : Str) (a b : Nat) (h : a ≤ z.length) : tl (cutS z (some (a : Int)) (some (b : Int))) = ((tl z).drop a).take (b - a) := by
  show (z.cps.toList.drop (HT.sIx z.length 0 (some (a : Int)))).take (HT.sIx z.length z.length (some (b : Int)) - HT.sIx z.length 0 (some (a : Int))) = (z.cps.toList.drop a).take (b - a)
  have hl : z.cps.toList.length = z.length := (len_tl z).symm
  rw [HT.sIx_nat, HT.sIx_nat, Nat.min_eq_left h]
  by_cases hb : b ≤ z.length
  · rw [Nat.min_eq_left hb]
  · rw [Nat.min_eq_right (by omega), List.take_of_length_le (by rw [List.length_drop]; omega), List.take_of_length_le (by rw [List.length_drop]; omega)]
theorem nl_eq : ("\n" : Str) = ⟨[10].toArray⟩ := ext_tl (by decide +kernel)
theorem sp_eq : (" " : Str) = ⟨[32].toArray⟩ := ext_tl (by decide +kernel)
theorem tab_eq : ("\t" : Str) = ⟨[9].toArray⟩ := ext_tl (by decide +kernel)
theorem str_at {ys : List Str} {i : Nat} {x : V} (h : (ys.map V.str)[i]? = some x) : ∃ z, x = V.str z ∧ ys[i]? = some z := by
  rw [List.getElem?_map] at h
  cases e : ys[i]? with
  | none =>
    rw [e] at h
    cases h
  | some z =>
    rw [e] at h
    exact ⟨z, (Option.some.inj h).symm, rfl⟩

/-! ### comprehensions over the signs of a text -/
theorem lc_str {x : Str} {g : TG} {tt : TT} {te : TE} {vs : List Nat} {σ : L2.St} {H1 : Hp} {D : Addr} {Qd : Hp → Prop} (Pv : Nat → Hp → Prop) (h0 : Pv 0 (upd H1 D (.lst [])))
    (hs : ∀ i c H, (tl x)[i]? = some c → Pv i H → g (.str ⟨#[c]⟩) (wipe σ vs) H fun σ2 H2 => wipe σ2 vs = wipe σ vs ∧ tt σ2 H2 fun b H3 =>
      if b = true then te σ2 H3 fun y H4 => ∃ acc, H4 D = some (.lst acc) ∧ acc.length < sizeLine ∧ Pv (i + 1) (upd H4 D (.lst (acc ++ [y]))) else Pv (i + 1) H3) (hd : ∀ H, Pv (tl x).length H → Qd H) :
    ∃ W : Nat → Nat → Hp → Prop, (∃ m, W 0 m (upd H1 D (.lst []))) ∧ ∀ i m H, W i m H →
      ((Its x).stop i H ∧ Qd H) ∨ ((Its x).go i H ∧ ∃ Nx : Hp → Prop, (∀ H', Nx H' → ∃ m', m' < m ∧ W (i + 1) m' H') ∧ ∀ y H', (Its x).yld i H y H' → g y (wipe σ vs) H' fun σ2 H2 => wipe σ2 vs = wipe σ vs ∧ tt σ2 H2 fun b H3 =>
        if b = true then te σ2 H3 fun y H4 => ∃ acc, H4 D = some (.lst acc) ∧ acc.length < sizeLine ∧ Nx (upd H4 D (.lst (acc ++ [y]))) else Nx H3) := by
  have sz : x.cps.size = (tl x).length := by simp [tl]
  refine ⟨fun i m H => m = (tl x).length - i ∧ i ≤ (tl x).length ∧ Pv i H, ⟨(tl x).length, by simp, Nat.zero_le _, h0⟩, ?_⟩
  rintro i m H ⟨rfl, hi, p⟩
  by_cases hlt : i < (tl x).length
  · refine .inr ⟨by show i < x.cps.size; omega, Pv (i + 1), fun H' p' => ⟨(tl x).length - (i + 1), by omega, rfl, hlt, p'⟩, fun y H' z => ?_⟩
    obtain ⟨e, c, hc, ey⟩ := z
    subst e ey
    exact hs i c _ (by rw [← hc]; simp [tl]) p
  · have e : i = (tl x).length := by omega
    subst e
    exact .inl ⟨by show x.cps.size ≤ (tl x).length; omega, hd H p⟩

/-! ### texts levelled: the mathematics -/
theorem exp_line {n : Nat} : ∀ (l r : List Nat) (col : Nat), (∀ c ∈ l, c ≠ 10 ∧ c ≠ 13) → Mun.expT n col (l ++ 10 :: r) = Mun.expT n col l ++ 10 :: Mun.expT n 0 r
  | [], r, col, _ => by
    rw [List.nil_append, expc (by decide), if_pos (.inl rfl)]
    rfl
  | c :: l, r, col, h => by
    have h1 := h c (List.mem_cons_self ..)
    have ih := fun k => exp_line (n := n) l r k fun d m => h d (List.mem_cons_of_mem _ m)
    rw [List.cons_append]
    by_cases e : c = 9
    · rw [e, exp9, exp9, ih, List.append_assoc]
    · rw [expc e, expc e, if_neg (fun z => z.elim h1.1 h1.2), ih]
      rfl
theorem exp_join {n : Nat} : ∀ ls : List (List Nat), (∀ l ∈ ls, ∀ c ∈ l, c ≠ 10 ∧ c ≠ 13) → Mun.expT n 0 (joinL [10] ls) = joinL [10] (ls.map (Mun.expT n 0))
  | [], _ => rfl
  | [l], _ => rfl
  | l :: m :: r, h => by
    have ih := exp_join (n := n) (m :: r) fun d z => h d (List.mem_cons_of_mem _ z)
    show Mun.expT n 0 (l ++ ([10] ++ joinL [10] (m :: r))) = Mun.expT n 0 l ++ ([10] ++ joinL [10] ((m :: r).map (Mun.expT n 0)))
    rw [← ih]
    exact exp_line l _ 0 (h l (List.mem_cons_self ..))
/-- a line widened, sign by sign -/
def stW (f : List Nat) (c : Nat) : List Nat := if c = 9 then f ++ List.replicate (8 - f.length % 8) 32 else f ++ [c]
theorem stW_all : ∀ (l f : List Nat), (∀ c ∈ l, c ≠ 10 ∧ c ≠ 13) → l.foldl stW f = f ++ Mun.expT 8 f.length l
  | [], f, _ => by
    show f = f ++ []
    rw [List.append_nil]
  | c :: l, f, h => by
    have h1 := h c (List.mem_cons_self ..)
    rw [List.foldl_cons, stW_all l _ fun d m => h d (List.mem_cons_of_mem _ m)]
    unfold stW
    by_cases e : c = 9
    · rw [if_pos e, e, exp9, List.append_assoc, List.length_append, List.length_replicate]
    · rw [if_neg e, expc e, if_neg (fun z => z.elim h1.1 h1.2), List.append_assoc, List.length_append]
      rfl
def lead (l : List Nat) : Nat := (l.takeWhile fun c => c == 32).length
theorem lead_le (l : List Nat) : lead l ≤ l.length := (List.takeWhile_sublist _).length_le
theorem lead_drop : ∀ (l : List Nat) (k : Nat), k ≤ lead l → lead (l.drop k) = lead l - k
  | [], k, h => by
    have e : k = 0 := Nat.le_zero.mp h
    subst e
    rfl
  | c :: l, 0, h => rfl
  | c :: l, k + 1, h => by
    unfold lead at h ⊢
    rw [List.takeWhile_cons] at h ⊢
    cases e : (c == 32) with
    | false =>
      rw [e] at h
      exact absurd h (Nat.not_succ_le_zero _)
    | true =>
      rw [e] at h
      have h' : k ≤ lead l := Nat.le_of_succ_le_succ h
      have ih := lead_drop l k h'
      rw [List.drop_succ_cons]
      show lead (l.drop k) = lead l + 1 - (k + 1)
      rw [ih]
      omega
theorem drop_nil_of {l : List Nat} {k : Nat} (h : k = 0) : l.drop k = l := by rw [h, List.drop_zero]
def spaces (l : List Nat) : Bool := l.all (· == 32)
/-- the least of some numbers, 0 of none -/
def leastN : List Nat → Nat
  | [] => 0
  | a :: r => r.foldl Nat.min a
theorem foldl_min : ∀ (r : List Nat) (a : Nat), r.foldl Nat.min a ≤ a ∧ (∀ y ∈ r, r.foldl Nat.min a ≤ y) ∧ (r.foldl Nat.min a = a ∨ r.foldl Nat.min a ∈ r)
  | [], a => ⟨Nat.le_refl _, fun _ h => (by cases h), .inl rfl⟩
  | b :: r, a => by
    have ih := foldl_min r (Nat.min a b)
    have m1 : Nat.min a b ≤ a := Nat.min_le_left ..
    have m2 : Nat.min a b ≤ b := Nat.min_le_right ..
    rw [List.foldl_cons]
    refine ⟨by omega, fun y h => ?_, ?_⟩
    · rcases List.mem_cons.mp h with rfl | h
      · omega
      · exact ih.2.1 y h
    · rcases ih.2.2 with e | e
      · rw [e]
        rcases Nat.le_total a b with z | z
        · exact .inl (Nat.min_eq_left z)
        · exact .inr (by rw [show Nat.min a b = b from Nat.min_eq_right z]; exact List.mem_cons_self ..)
      · exact .inr (List.mem_cons_of_mem _ e)
theorem leastN_spec {ns : List Nat} (h : ns ≠ []) : leastN ns ∈ ns ∧ ∀ y ∈ ns, leastN ns ≤ y := by
  cases ns with
  | nil => exact absurd rfl h
  | cons a r =>
    have g := foldl_min r a
    refine ⟨?_, fun y hy => ?_⟩
    · rcases g.2.2 with e | e
      · show r.foldl Nat.min a ∈ _
        rw [e]
        exact List.mem_cons_self ..
      · exact List.mem_cons_of_mem _ e
    · rcases List.mem_cons.mp hy with rfl | hy
      · exact g.1
      · exact g.2.1 y hy
theorem leastN_eq {ns : List Nat} {m : Nat} (h : m ∈ ns) (hl : ∀ y ∈ ns, m ≤ y) : m = leastN ns := by
  have g := leastN_spec (ns := ns) (by rintro rfl; cases h)
  have a := hl _ g.1
  have b := g.2 _ h
  omega
theorem leastN_int {ns : List Nat} {m : Int} (h : m ∈ ns.map (fun n : Nat => (n : Int))) (hl : ∀ y ∈ ns.map (fun n : Nat => (n : Int)), m ≤ y) : m = (leastN ns : Nat) := by
  obtain ⟨k, hk, rfl⟩ := List.mem_map.mp h
  rw [leastN_eq hk fun y hy => Int.ofNat_le.mp (hl _ (List.mem_map.mpr ⟨y, hy, rfl⟩))]
/-- the least indent of lines that are not blank -/
def leads (ws : List (List Nat)) : List Nat := (ws.filter fun l => !spaces l).map lead
def levW (ws : List (List Nat)) : List (List Nat) := ws.map (·.drop (leastN (leads ws)))
theorem spaces_drop {l : List Nat} {k : Nat} (hk : k ≤ lead l) : spaces (l.drop k) = spaces l := by
  cases e : spaces l with
  | true =>
    unfold spaces at e ⊢
    rw [List.all_eq_true] at e ⊢
    exact fun c hc => e c (List.mem_of_mem_drop hc)
  | false =>
    cases e2 : spaces (l.drop k) with
    | false => rfl
    | true =>
      have h1 : (l.take k).all (· == 32) = true := by
        have hp : l.take k <+: l.takeWhile (fun c => c == 32) := by
          refine List.prefix_of_prefix_length_le (List.take_prefix k l) (List.takeWhile_prefix _) ?_
          exact Nat.le_trans (List.length_take_le ..) hk
        rw [List.all_eq_true]
        intro c hc
        exact List.all_eq_true.mp (List.all_takeWhile (p := fun c => c == 32) (l := l)) c (hp.subset hc)
      have h2 : spaces l = true := by
        unfold spaces at e2 ⊢
        rw [← List.take_append_drop k l, List.all_append, h1, e2]
        rfl
      rw [h2] at e
      cases e
theorem levW_again (ws : List (List Nat)) : levW (levW ws) = levW ws := by
  have key : leastN (leads (levW ws)) = 0 := by
    unfold levW
    generalize hm : leastN (leads ws) = m
    have hle : ∀ l ∈ ws, spaces l = false → m ≤ lead l := fun l hl hs => by
      have h : lead l ∈ leads ws := List.mem_map.mpr ⟨l, List.mem_filter.mpr ⟨hl, by rw [hs]; rfl⟩, rfl⟩
      rw [← hm]
      exact (leastN_spec (ns := leads ws) (fun z => by rw [z] at h; cases h)).2 _ h
    have hsp : ∀ l ∈ ws, spaces (l.drop m) = spaces l := fun l hl => by
      cases hs : spaces l with
      | false => rw [spaces_drop (hle l hl hs), hs]
      | true =>
        unfold spaces at hs ⊢
        rw [List.all_eq_true] at hs ⊢
        exact fun c hc => hs c (List.mem_of_mem_drop hc)
    by_cases hn : leads ws = []
    · have e2 : leads (ws.map (·.drop m)) = [] := by
        unfold leads at hn ⊢
        rw [List.map_eq_nil_iff, List.filter_eq_nil_iff] at hn ⊢
        intro l hl
        obtain ⟨l', hl', rfl⟩ := List.mem_map.mp hl
        show ¬ (!spaces (l'.drop m)) = true
        rw [hsp l' hl']
        exact hn l' hl'
      rw [e2]
      rfl
    · have g := leastN_spec hn
      rw [hm] at g
      obtain ⟨l, hl, e⟩ := List.mem_map.mp g.1
      obtain ⟨hl1, hl2⟩ := List.mem_filter.mp hl
      have hl3 : spaces l = false := by
        cases z : spaces l with
        | false => rfl
        | true =>
          rw [z] at hl2
          cases hl2
      have h0 : (0 : Nat) ∈ leads (ws.map (·.drop m)) := by
        refine List.mem_map.mpr ⟨l.drop m, List.mem_filter.mpr ⟨List.mem_map.mpr ⟨l, hl1, rfl⟩, ?_⟩, ?_⟩
        · rw [hsp l hl1, hl3]
          rfl
        · rw [lead_drop l m (by omega)]
          omega
      exact (leastN_eq h0 fun y _ => Nat.zero_le y).symm
  show (levW ws).map (·.drop (leastN (leads (levW ws)))) = levW ws
  rw [key]
  exact (List.map_congr_left fun l _ => List.drop_zero).trans (List.map_id _)
theorem lead_at : ∀ (l : List Nat), spaces l = false → ∃ c, l[lead l]? = some c ∧ (c == 32) = false ∧ ∀ (m d : Nat), m < lead l → l[m]? = some d → (d == 32) = true
  | [], h => by cases h
  | c :: l, h => by
    unfold lead
    rw [List.takeWhile_cons]
    cases e : (c == 32) with
    | false => exact ⟨c, rfl, e, fun m d hm _ => absurd hm (Nat.not_lt_zero _)⟩
    | true =>
      have h' : spaces l = false := by
        unfold spaces at h ⊢
        rw [List.all_cons, e] at h
        exact h
      obtain ⟨d, h1, h2, h3⟩ := lead_at l h'
      refine ⟨d, h1, h2, fun m g hm hg => ?_⟩
      cases m with
      | zero =>
        cases hg
        exact e
      | succ m => exact h3 m g (Nat.lt_of_succ_lt_succ hm) hg
theorem lead_by (goes : Nat → Bool) : ∀ (l : List Nat) (n : Nat), n ≤ l.length → (∀ k c, k < n → l[k]? = some c → goes c = true) → (n = l.length ∨ ∃ c, l[n]? = some c ∧ goes c = false) → (l.takeWhile goes).length = n
  | [], n, h, _, _ => (Nat.le_zero.mp h).symm
  | c :: l, 0, _, _, h3 => by
    rcases h3 with h3 | ⟨d, h3, h4⟩
    · cases h3
    · cases h3
      rw [List.takeWhile_cons, h4]
      rfl
  | c :: l, n + 1, h1, h2, h3 => by
    rw [List.takeWhile_cons, h2 0 c (Nat.zero_lt_succ _) rfl]
    show (l.takeWhile goes).length + 1 = n + 1
    rw [lead_by goes l n (Nat.le_of_succ_le_succ h1) (fun k d hk hd => h2 (k + 1) d (Nat.succ_lt_succ hk) hd) (h3.elim (fun z => .inl (Nat.succ.inj z)) .inr)]
theorem lstrip_len (x : Str) (goes : Nat → Bool) : (Txt.stripBy goes true false x).length = x.length - ((tl x).takeWhile goes).length := by
  rw [stripBy_eq]
  obtain ⟨h1, h2, h3⟩ := lo_facts goes x
  have hh : stripHi goes false x (stripLo goes true x) = x.length := rfl
  rw [hh]
  have hl : (Builtin.Str.strSub x (stripLo goes true x) x.length).length = x.length - stripLo goes true x := by
    rw [len_tl, tl_strSub, List.length_take, List.length_drop, ← len_tl]
    omega
  rw [hl]
  have get : ∀ k c, (tl x)[k]? = some c → x.cps.getD k 0 = c := fun k c h => by
    have hk := (List.getElem?_eq_some_iff.mp h).1
    have hk' : k < x.cps.size := by simpa [tl] using hk
    have e2 := (List.getElem?_eq_some_iff.mp h).2
    rw [← e2]
    simp [tl, Array.getD, hk']
  rw [lead_by goes (tl x) (stripLo goes true x) (by rw [← len_tl]; exact h1) (fun k c hk hc => by rw [← get k c hc]; exact h2 k hk) ?_]
  rcases h3 with e | e
  · exact .inl (by rw [e, len_tl])
  · by_cases hlt : stripLo goes true x < (tl x).length
    · refine .inr ⟨(tl x)[stripLo goes true x], List.getElem?_eq_getElem hlt, ?_⟩
      rw [← get _ _ (List.getElem?_eq_getElem hlt)]
      exact e
    · rw [len_tl] at h1
      exact .inl (by omega)
theorem contains_one (c : Nat) : (#[c] : Array Nat).contains = fun d => d == c := by
  funext d
  rw [Bool.eq_iff_iff, Array.contains_iff_mem]
  simp
theorem indent_len (x : Str) : (x.length : Int) - ((Txt.lstripChars x ⟨#[32]⟩).length : Int) = (lead (tl x) : Nat) := by
  have h : (Txt.lstripChars x ⟨#[32]⟩).length = x.length - lead (tl x) := by
    unfold Txt.lstripChars
    rw [contains_one]
    exact lstrip_len x _
  have h2 := lead_le (tl x)
  rw [← len_tl] at h2
  omega
theorem spaces_strip (x : Str) : ((Txt.stripChars x ⟨#[32]⟩).length = 0) ↔ spaces (tl x) = true := by
  unfold Txt.stripChars
  rw [strip_blank, contains_one]
  exact Iff.rfl

/-! ### min(a list of ints, default=an int) -/
section
variable {prog : Program} {w : World} {A : Around} {R : Result → Shared → Prop} {I S : Addr} {fp wr : List Addr} {arr : Array Value} {St : Nat → Heap → Prop} {val : Nat → Int} {kw : List (Str × Value)}
theorem minD_run (W : Walks prog w A.in1 I fp wr arr.size (fun i v => arr[i]? = some v) St) (cmp : CmpOf prog w A.in1 .Lt (fun i v => arr[i]? = some v) fun i j => decide (val i < val j)) (nS : S ∉ fp) :
    ∀ (k j b : Nat) (u : Shared) (x : Value) (c : Nat), arr.size = j + 1 + k → b ≤ j → (∀ i, i ≤ j → val b ≤ val i) → St (j + 1) u.heap → arr[b]? = some x →
      u.heap.get? S = some { cls := .type "list", dict := none, data := .seq #[x, x] c, slots := #[] } →
      (∀ b x h' tk, arr[b]? = some x → (∀ i, i < arr.size → val b ≤ val i) → (∀ a o, a ∉ wr → a ≠ S → u.heap.get? a = some o → h'.get? a = some o) → R (.ok (.ret x)) { u with heap := h', toks := tk }) →
      codeAny (model prog w) A (.builtin "min.loop" ⟨[.ref I, .none, .ref S], kw⟩) R u := by
  have nW : S ∉ wr := fun z => nS (W.sub _ z)
  have idn : (toString "min" ++ toString ".loop" : String) = "min.loop" := by decide +kernel
  intro k
  induction k with
  | zero =>
    intro j b u x c ek hb hv pos hx gS done
    refine codeAny_builtin F.entry_min_loop ?_; rw [Around.under_plainId F.plain_min_loop _]
    show wpAny _ A.in1 (seqItems? (.ref S) >>= _) _ _ u
    refine wpAny_bind (wpAny_seqItems gS rfl ?_)
    show wpAny _ A.in1 (tryCatch (pyNext (.ref I)) _ >>= _) _ _ u
    refine wpAny_bind (wpAny_tryCatch (W.done u _ _ (by rw [ek]; exact pos) fun h1 tk1 old1 => ?_))
    show wpAny _ A.in1 (updateSeq S (fun _ => #[]) >>= _) _ _ _; refine wpAny_bind ?_
    refine wpAny_updateSeq (old1 S _ nW gS) rfl (wpAny_bind (wpAny_letGo (wpAny_pure ?_)))
    exact done b x _ tk1 hx (fun i hi => hv i (by omega)) fun a o ha hne e => (Heap.get?_update_other _ _ (Ne.symm hne)).trans (old1 a o ha e)
  | succ k next =>
    intro j b u x c ek hb hv pos hx gS done
    refine codeAny_builtin F.entry_min_loop ?_; rw [Around.under_plainId F.plain_min_loop _]
    show wpAny _ A.in1 (seqItems? (.ref S) >>= _) _ _ u
    refine wpAny_bind (wpAny_seqItems gS rfl ?_)
    show wpAny _ A.in1 (tryCatch (pyNext (.ref I)) _ >>= _) _ _ u
    refine wpAny_bind (wpAny_tryCatch (W.item (j + 1) u _ _ (by omega) pos fun y h1 tk1 hy pos1 old1 => ?_))
    have gS1 := old1 S _ nW gS
    show wpAny _ A.in1 (tryCatch (holding [y, y] (richCompare .Lt y x >>= _)) _ >>= _) _ _ _
    refine wpAny_bind (wpAny_tryCatch (wpAny_holding (wpAny_bind (cmp (j + 1) b y x _ _ _ hy hx ?_))))
    refine wpAny_bind (wpAny_holding (wpAny_truthy_bool ?_)); refine wpAny_bind (wpAny_letGo (wpAny_pure ?_))
    by_cases lt : val (j + 1) < val b
    · rw [if_pos (show (fun i j => decide (val i < val j)) (j + 1) b = true from decide_eq_true lt)]
      refine wpAny_bind ?_; refine wpAny_updateSeq gS1 rfl (wpAny_bind (wpAny_letGo ?_)); rw [idn]
      refine wpAny_pure ⟨plainId_quiet F.plain_min_loop _, next (j + 1) (j + 1) _ y _ (by omega) (Nat.le_refl _) (fun i hi => ?_) (W.frame _ _ _ pos1 fun a ha o e => ?_) hy (Heap.get?_update_self _ gS1 rfl) fun b' x' h2 tk2 e1 e2 old2 => ?_⟩
      · by_cases hi2 : i = j + 1
        · rw [hi2]
          exact Int.le_refl _
        · have := hv i (by omega)
          omega
      · exact (Heap.get?_update_other _ _ (fun z : S = a => nS (z ▸ ha))).trans e
      · exact done b' x' h2 tk2 e1 e2 fun a o ha hne e => old2 a o ha hne ((Heap.get?_update_other _ _ (Ne.symm hne)).trans (old1 a o ha e))
    · rw [if_neg (show ¬ (fun i j => decide (val i < val j)) (j + 1) b = true from fun z => lt (of_decide_eq_true z))]
      refine wpAny_bind (wpAny_letGo ?_); rw [idn]
      refine wpAny_pure ⟨plainId_quiet F.plain_min_loop _, next (j + 1) b _ x c (by omega) (by omega) (fun i hi => ?_) pos1 hx gS1 fun b' x' h2 tk2 e1 e2 old2 => ?_⟩
      · by_cases hi2 : i = j + 1
        · rw [hi2]
          omega
        · exact hv i (by omega)
      · exact done b' x' h2 tk2 e1 e2 fun a o ha hne e => old2 a o ha hne (old1 a o ha e)
theorem minD_from (W : Walks prog w A.in1 I fp wr arr.size (fun i v => arr[i]? = some v) St) (cmp : CmpOf prog w A.in1 .Lt (fun i v => arr[i]? = some v) fun i j => decide (val i < val j)) (nS : S ∉ fp) {d : Value} {z : Str}
    {u : Shared} {c : Nat} (pos : St 0 u.heap) (gS : u.heap.get? S = some { cls := .type "list", dict := none, data := .seq #[] c, slots := #[] })
    (dflt : ∀ h' tk, arr.size = 0 → (∀ a o, a ∉ wr → a ≠ S → u.heap.get? a = some o → h'.get? a = some o) → R (.ok (.ret d)) { u with heap := h', toks := tk })
    (done : ∀ b x h' tk, arr[b]? = some x → (∀ i, i < arr.size → val b ≤ val i) → (∀ a o, a ∉ wr → a ≠ S → u.heap.get? a = some o → h'.get? a = some o) → R (.ok (.ret x)) { u with heap := h', toks := tk }) :
    codeAny (model prog w) A (.builtin "min.loop" ⟨[.ref I, .none, .ref S], [(z, d)]⟩) R u := by
  have nW : S ∉ wr := fun z => nS (W.sub _ z)
  have idn : (toString "min" ++ toString ".loop" : String) = "min.loop" := by decide +kernel
  refine codeAny_builtin F.entry_min_loop ?_; rw [Around.under_plainId F.plain_min_loop _]
  show wpAny _ A.in1 (seqItems? (.ref S) >>= _) _ _ u
  refine wpAny_bind (wpAny_seqItems gS rfl ?_)
  show wpAny _ A.in1 (tryCatch (pyNext (.ref I)) _ >>= _) _ _ u
  by_cases h0 : arr.size = 0
  · refine wpAny_bind (wpAny_tryCatch (W.done u _ _ (by rw [h0]; exact pos) fun h1 tk1 old1 => ?_))
    refine wpAny_bind (wpAny_rule (wpAny_pure ?_))
    exact dflt h1 tk1 h0 fun a o ha _ e => old1 a o ha e
  · refine wpAny_bind (wpAny_tryCatch (W.item 0 u _ _ (by omega) pos fun y h1 tk1 hy pos1 old1 => ?_))
    have gS1 := old1 S _ nW gS
    show wpAny _ A.in1 (updateSeq S (fun _ => #[y, y]) >>= _) _ _ _; refine wpAny_bind ?_
    refine wpAny_updateSeq gS1 rfl ?_; rw [idn]
    refine wpAny_pure ⟨plainId_quiet F.plain_min_loop _, minD_run W cmp nS (arr.size - 1) 0 0 _ y _ (by omega) (Nat.le_refl _) (fun i hi => by rw [Nat.le_zero.mp hi]; exact Int.le_refl _) (W.frame _ _ _ pos1 fun a ha o e => ?_) hy (Heap.get?_update_self _ gS1 rfl) fun b' x' h2 tk2 e1 e2 old2 => ?_⟩
    · exact (Heap.get?_update_other _ _ (fun z : S = a => nS (z ▸ ha))).trans e
    · exact done b' x' h2 tk2 e1 e2 fun a o ha hne e => old2 a o ha hne ((Heap.get?_update_other _ _ (Ne.symm hne)).trans (old1 a o ha e))
end
theorem minD_args (a v : Value) : argsOk "min" ⟨[a], [(Str.ofString "default", v)]⟩ := by unfold argsOk; kernel_rfl
theorem minD_raw {prog : Program} {w : World} {A : Around} {E : Value → Shared → Prop} {s : Shared} {l : Addr} {its : List Value} {ns : List Int} {d : Value} {Q : Value → Shared → Prop} (hh : A.handled = none) (hl : s.heap.IsList l its.toArray) (hi : IntsAre its ns)
    (dflt : ∀ h' tk, ns = [] → (∀ a o, s.heap.get? a = some o → h'.get? a = some o) → Q d { s with heap := h', toks := tk })
    (done : ∀ h' tk m t, m ∈ ns → (∀ y ∈ ns, m ≤ y) → (∀ a o, s.heap.get? a = some o → h'.get? a = some o) → Q (.int m t) { s with heap := h', toks := tk }) :
    wpAny (model prog w) A (call (.builtin "min") [.ref l] [(Str.ofString "default", d)]) Q E s := by
  obtain ⟨xs, e⟩ := hi.allInts.items
  have hn : numsOf (intItems xs).toList = ns := by rw [← e]; exact hi.numsOf
  rw [nums_intItems] at hn
  subst hn
  rw [e] at hl
  have idn : (toString "min" ++ toString ".loop" : String) = "min.loop" := by decide +kernel
  have ld : ∀ i, i < (intItems xs).size → ∃ p, xs.toList[i]? = some p ∧ numAt xs i = p.1 := fun i hlt => by
    have hlt' : i < xs.size := by simpa [intItems] using hlt
    refine ⟨xs[i], by simp [hlt'], by simp [numAt, hlt']⟩
  refine kmk_tree F.kind_min F.plain_min F.entry_min (minD_args _ _) ?_
  show wpAny _ A.in1 (Builtin.Builtins.bindParams "min" ["key", "default"] 0 ⟨[], [(Str.ofString "default", d)]⟩ >>= _) _ _ s
  refine wpAny_bind (wpAny_of_eq (show Builtin.Builtins.bindParams "min" ["key", "default"] 0 ⟨[], [(Str.ofString "default", d)]⟩ = pure [none, some d] from rfl) ?_)
  refine wpAny_bind (wpAny_pure (wpAny_bind (iter_intList hl fun s2 e2 pos hfp hlI => ?_)))
  subst e2
  refine wpAny_bind (wpAny_newObj_type ?_); rw [idn]
  have nS : (s.heap.push { cls := .type "list_iterator", data := .fields #[.ref l, .int 0 0] }).objs.size ∉ [s.heap.objs.size, l] := fun z => Nat.lt_irrefl _ (hfp _ z)
  have W := Walks.list (prog := prog) (w := w) (A := A.in1) hh _ l hlI (intItems xs)
  have old : ∀ h' : Heap, (∀ a o, a ∉ [s.heap.objs.size] → a ≠ (s.heap.push { cls := .type "list_iterator", data := .fields #[.ref l, .int 0 0] }).objs.size → ((s.heap.push { cls := .type "list_iterator", data := .fields #[.ref l, .int 0 0] }).push { cls := .type "list", data := .seq #[] }).get? a = some o → h'.get? a = some o) → ∀ a o, s.heap.get? a = some o → h'.get? a = some o := fun h' k a o g => by
    have lt := Heap.lt_size g
    refine k a o (fun z => ?_) (fun z => ?_) (Heap.get?_push_of_some _ (Heap.get?_push_of_some _ g))
    · rw [List.mem_singleton.mp z] at lt
      exact Nat.lt_irrefl _ lt
    · rw [z, Heap.size_push] at lt
      exact Nat.lt_irrefl _ (Nat.lt_of_succ_lt lt)
  refine wpAny_pure ⟨plainId_quiet F.plain_min_loop _, minD_from W (CmpOf.ints_lt (numAt xs) (fun _ _ => intItems_at)) nS (W.frame _ _ _ pos fun a _ o g => Heap.get?_push_of_some _ g) (Heap.get?_push_size _ rfl) (fun h' tk h0 k => ?_) fun b x h' tk hx hle k => ?_⟩
  · refine dflt h' tk ?_ (old h' k)
    have hz : xs.toList.length = 0 := by simpa [intItems] using h0
    rw [List.length_eq_zero_iff.mp hz]
    rfl
  · obtain ⟨t, rfl⟩ := intItems_at hx
    obtain ⟨p, hp, ep⟩ := ld b (Array.getElem?_eq_some_iff.mp hx).1
    refine done h' tk _ t ?_ (fun y hy => ?_) (old h' k)
    · rw [ep]
      exact List.mem_map.mpr ⟨p, List.mem_of_getElem? hp, rfl⟩
    · obtain ⟨q, hq, rfl⟩ := List.mem_map.mp hy
      obtain ⟨i, hi', rfl⟩ := List.getElem_of_mem hq
      have hlt : i < (intItems xs).size := by simpa [intItems] using hi'
      obtain ⟨q, hq2, eq⟩ := ld i hlt
      rw [List.getElem?_eq_getElem hi'] at hq2
      cases hq2
      rw [← eq]
      exact hle i hlt
def rMinD (K : PySem.W.Frag) : List V → List V → Hp → VK → Prop := fun vs zs H Q => ∃ (a : Addr) (ns : List Int) (d : Int), vs = [V.ref a] ∧ zs = [.int d] ∧ SqL K H a (ns.map V.int) ∧ ∀ m, (ns = [] ∧ m = d) ∨ (m ∈ ns ∧ ∀ y, y ∈ ns → m ≤ y) → Q (.int m) H
theorem cr_minD {X : Cx} (hc : X.calm = true) : CallRK X (.builtin "min") ["default"] (rMinD X.K) := by
  intro pins s σ H xs zs us ws Q I r1 r2 h
  obtain ⟨a, ns, d, rfl, rfl, sq, q⟩ := h
  obtain ⟨its, rv, hl, _⟩ := I.list sq
  rw [Vals.ref1 r1]
  cases r2 with
  | cons r rr =>
    cases rr
    obtain ⟨t, rfl⟩ := r
    exact minD_raw (I.ok.hd hc) hl.isList rv.ints (fun h' tk e k => ⟨.int _, H, I.kept k, ⟨_, rfl⟩, q d (.inl ⟨e, rfl⟩)⟩) fun h' tk m t' h1 h2 k => ⟨.int _, H, I.kept k, ⟨_, rfl⟩, q m (.inr ⟨h1, h2⟩)⟩

/-! ### (*xs, y) = a list -/
section
variable {prog : Program} {w : World} {A : Around} {E : Value → Shared → Prop} {s : Shared}
theorem star_front {l : Addr} {items : Array Value} {Q : List Value → Shared → Prop} (hl : s.heap.IsList l items) (hh : A.handled = none) (h1 : 1 ≤ items.size) (hz : items.size ≤ 16384)
    (h : ∀ (h' : Heap) (tk : Nat), (∀ b o, s.heap.get? b = some o → h'.get? b = some o) →
      Q (.ref h'.objs.size :: items.toList.drop (items.size - 1)) { s with heap := h'.push { cls := .type "list", data := .seq (items.toList.take (items.size - 1)).toArray }, toks := tk }) :
    wpAny (model prog w) A (unpackItems (.ref l) 2 (some 0)) Q E s := by
  have hl2 := hl
  obtain ⟨ob, hob, _⟩ := hl2
  have sz := Heap.lt_size hob
  have ne : l ≠ s.heap.objs.size := Nat.ne_of_lt sz
  unfold unpackItems notIterableAtAll
  refine wpAny_bind (wpAny_bind (wpAny_specialOf hl.typeIs slot_list_iter.lookup (wpAny_pure ?_)))
  rw [if_neg (by decide)]
  refine wpAny_bind (wpAny_holding (wpAny_pyIter_list hl (wpAny_bind (wpAny_holding (wpAny_pure ?_)))))
  rw [if_neg (Nat.not_lt_zero _)]
  refine wpAny_bind (wpAny_holding (PySem.W.kun_collect (T := "list_iterator") (items := items) (.inr (.inr (.inl rfl))) (Walks.list (A := A.in1) hh s.heap.objs.size l ne items) (fun _ _ z => z.1.typeIs) (k := 0) (Nat.zero_le _) ⟨⟨_, Heap.get?_push_size _ rfl, rfl, rfl⟩, hl.push _⟩ ?_ ?_ (fun h2 tk kp => ?_) ?_))
  · rw [Heap.size_push]
    exact Nat.lt_succ_self _
  · rw [Heap.size_push]
    exact Nat.lt_succ_of_lt sz
  · have ln : items.toList.length = items.size := Array.length_toList
    rw [List.drop_zero]
    show wpAny _ _ (if items.toList.length < 1 then _ else _) _ _ _
    rw [if_neg (by omega)]
    refine wpAny_bind (wpAny_newList (wpAny_pure ?_) ?_)
    · show Q ([] ++ [Value.ref h2.objs.size] ++ items.toList.drop (items.toList.length - 1)) _
      rw [ln]
      exact h h2 tk fun b o e => kp b o (Nat.ne_of_lt (Heap.lt_size e)) (Heap.get?_push_of_some _ e)
    · rw [List.length_take, sizeLine_eq]
      omega
  · rw [sizeLine_eq]
    omega
end
theorem vals_last : ∀ {xs : List V} {y : V} {its : List Value}, Vals (xs ++ [y]) its → ∃ us z, its = us ++ [z] ∧ Vals xs us ∧ RelV y z
  | [], y, its, h => by
    cases h with
    | cons r rr =>
      cases rr
      exact ⟨[], _, rfl, .nil, r⟩
  | x :: xs, y, its, h => by
    cases h with
    | cons r rr =>
      obtain ⟨us, z, e, a, b⟩ := vals_last rr
      exact ⟨_ :: us, z, by rw [e]; rfl, .cons r a, b⟩
def gStar (K : PySem.W.Frag) (t : TGs) : TG := fun v σ H Q => ∃ (l : Addr) (xs : List V) (y : V), v = .ref l ∧ SqL K H l (xs ++ [y]) ∧ xs.length ≤ 16000 ∧ ∀ D, H D = none → t [.ref D, y] σ (upd H D (.lst xs)) Q
theorem pg_star {X : Cx} {e f : Expr} {k : Nat} {p pos : Pos} {t : TGs} (hc : X.calm = true) (h : PGs X [e, f] t)
    (hn : (assignEach [.Starred e p, f] X.env).length = 2 := by rfl) (hst : (assignEach [.Starred e p, f] X.env).findIdx? (·.1) = some 0 := by rfl)
    (hm : (assignEach [.Starred e p, f] X.env).map (·.2) = (assignEach [e, f] X.env).map (·.2) := by rfl) : PG X (.Tuple [.Starred e p, f] k pos) (gStar X.K t) := by
  refine ⟨fun pins s σ H v u Q I r hw => ?_⟩
  obtain ⟨l, xs, y, e1, hq, hz, hw⟩ := hw
  subst e1
  cases r
  obtain ⟨its, rv, ht, hz2⟩ := I.list hq
  obtain ⟨us, z, rfl, r1, r2⟩ := vals_last rv
  have lu : xs.length = us.length := r1.length
  have sz : (us ++ [z]).toArray.size = us.length + 1 := by simp
  rw [assign_Tuple]
  refine wpAny_bind (wpAny_standAt ?_)
  unfold unpack
  rw [hn, hst]
  refine wpAny_bind (wpAny_holding (star_front ht.isList (I.ok.hd hc) (by omega) (by omega) fun h' tk kp => ?_))
  rw [hm, sz]
  have e1 : (us ++ [z]).toArray.toList.take (us.length + 1 - 1) = us := by simp
  have e2 : (us ++ [z]).toArray.toList.drop (us.length + 1 - 1) = [z] := by simp
  rw [e1, e2]
  have I1 : Inv X pins σ H { s with heap := h', toks := tk } := I.kept (t' := tk) kp
  have hf : H h'.objs.size = none := I1.hok.fresh (Nat.le_refl _)
  have I2 : Inv X pins σ (upd H h'.objs.size (.lst xs)) { s with heap := h'.push { cls := .type "list", data := .seq us.toArray }, toks := tk } := I1.laid (t' := tk) (fun b u q => Heap.get?_push_of_some _ q) (Nat.le_refl _) ⟨by rw [sizeLine_eq]; omega, us, 0, r1, Heap.get?_push_size _ rfl⟩
  exact h.run pins _ σ _ [.ref h'.objs.size, y] [.ref h'.objs.size, z] Q I2 (.cons rfl (.cons r2 .nil)) (hw _ hf)

/-! ### own classes: made by name, their fields within comprehensions -/
theorem vals_app : ∀ {vs : List V} {us : List Value} {zs : List V} {ws : List Value}, Vals vs us → Vals zs ws → Vals (vs ++ zs) (us ++ ws)
  | _, _, _, _, .nil, r => r
  | _, _, _, _, .cons a b, r => .cons a (vals_app b r)
structure OwnC (P : Program) (w : World) (K : PySem.W.Frag) (mg : Str → Option Value) (base : Heap) (x : Str) (C : Addr) (k : Nat) (ps ks : List Str) (n : Nat) (sp : Sp) : Prop where
  ex : ∃ f fd g, Mk K C f ∧ FnOk P w K mg base CX0 k f fd ps sp ∧ KBn K fd ps (n + 1) ks g (fun vs zs => vs ++ zs) ∧ mg x = some (.ref C)
theorem pe_ownC {X : Cx} {x : Str} {C : Addr} {k n : Nat} {ps ks : List Str} {sp : Sp} {e : Expr} {es : List Expr} {kws : List Keyword} {t tk : TA} {p pos : Pos} (O : OwnC X.prog X.w X.K X.mg X.base x C k ps ks n sp) (hr : Room (k + 1) X.A) (hg : Gl X x) (ha : PA X (e :: es) t) (hkw : PK X kws tk)
    (hall : (backToKw pos (keywordEach kws X.env)).all (·.1.isSome) = true := by rfl) (hks : (backToKw pos (keywordEach kws X.env)).filterMap (·.1) = ks := by rfl) (hdb : (x == ("__debug__" : Str)) = false := by decide) (he : starEach (e :: es) X.env = (false, eval e X.env) :: starEach es X.env := by rfl)
    (hpl : ((backTo pos (starEach (e :: es) X.env)).any (·.1) || (backToKw pos (keywordEach kws X.env)).any (·.1.isNone)) = false := by rfl) : PE X (.Call (.Name x p) (e :: es) kws pos) (tMakeK C n ks.length sp (fun vs zs => vs ++ zs) E0 t tk) := by
  obtain ⟨f, fd, g, M, F, hb, hm⟩ := O.ex
  exact pe_makeK M F hr hg hm hb pass0 ha hkw hall hks hdb he hpl
theorem FunD_okN {P : Program} {w : World} {K : PySem.W.Frag} {mg : Str → Option Value} {base : Heap} {x qual : Str} {params : Arguments} {body : List Stmt} {scope : Scope} {dvs : List V} {kws : List (Str × V)} {f : Addr} {fd : FuncData} {N ps : List Str} {k : Nat} {sp : Sp}
    (F : FunD K x qual params body scope dvs kws f fd) (S : FnScope N ps scope) (len : ∀ vs H Q E, sp vs H Q E → vs.length = ps.length)
    (hbody : ∀ (cdv : Value) (A : Around) (outer : List Env) (s : Shared) (H : Hp) (vs : List V) (Q : VK) (E : XK), Room k (A.deeper (envOfC qual scope s.heap.objs.size f cdv)) → sp vs H Q E →
      ∃ t, PSs (cxOf CX0 P w K mg base N qual scope f cdv A outer s H E).nox body t ∧ t { nx := fun _ H' => Q .non H', rt := Q } (start N vs) H) : FnOk P w K mg base CX0 (k + 1) f fd ps sp :=
  FunD.ok F S len fun cdv A outer s H vs Q E hr hsp => by
    obtain ⟨t, h, q⟩ := hbody cdv A outer s H vs Q E hr hsp
    exact ⟨t, h.nox, q⟩
theorem pe_fldK {X : Cx} {K' : PySem.W.Frag} (hK : X.K = K') {e : Expr} {ta : TE} {f : Str} {pos : Pos} (he : PE X e ta) (hb : attributeBase e f X.env (eval e X.env) = eval e X.env) : PE X (.Attribute e f pos) (tFld K' ta f) := by
  subst hK
  exact pe_fld he hb
theorem call_isiK {X : Cx} {K' : PySem.W.Frag} (hK : X.K = K') : CallR X (.builtin "isinstance") (rIsi K') := by
  subst hK
  exact call_isi
def tReplN (y z : Str) (to : TE) : TE := fun σ H Q => to σ H fun x H1 => ∃ a : Str, x = .str a ∧ (Builtin.Str.occurrences a y 0 a.length (a.length + 1)).isEmpty = true ∧ Q (.str a) H1
theorem replN {prog : Program} {w : World} {A : Around} {E : Value → Shared → Prop} {s : Shared} {x y z : Str} {t u v : Tok} {Q : Value → Shared → Prop} (h : (Builtin.Str.occurrences x y 0 x.length (x.length + 1)).isEmpty = true) (hq : ∀ t' k, Q (.str x t') { s with toks := k }) :
    wpAny (model prog w) A (call (.builtin "str.replace") [.str x t, .str y u, .str z v]) Q E s := by
  refine wpAny_call (codeAny_call_builtin PySem.F.slot_str_replace.plain PySem.F.entry_str_replace (PySem.F.slot_str_replace.check _ _ _ _ _ _ _ _ (typeIs_str _ _ _) (PySem.F.args_str_replace_3 _ _ _) ?_))
  show wpAny _ _ (if ((Builtin.Str.occurrences x y 0 x.length (x.length + 1)).isEmpty || (y.length == 0 && z.length == 0)) = true then (do rule "str.replace.nothing"; PySem.ret (.str x t)) else _) _ _ _
  rw [h, Bool.true_or, if_pos rfl]
  exact wpAny_bind (wpAny_rule (wpAny_pure (hq t s.toks)))
theorem pe_replN {X : Cx} {o : Expr} {to : TE} {y z : Str} {j0 j1 : Nat} {c0 c1 apos pos : Pos} (ho : PE X o to) (hst : starEach [.Constant (.str y) j0 c0, .Constant (.str z) j1 c1] X.env = [(false, eval (.Constant (.str y) j0 c0) X.env), (false, eval (.Constant (.str z) j1 c1) X.env)] := by rfl)
    (hbase : attributeBase o "replace" X.env (eval o X.env) = eval o X.env := by rfl) (hline : (apos.endLine == pos.line) = true := by rfl) : PE X (.Call (.Attribute o "replace" apos) [.Constant (.str y) j0 c0, .Constant (.str z) j1 c1] [] pos) (tReplN y z to) := by
  refine ⟨fun pins s σ H Q I h => ?_⟩
  refine PySem.Call_method2 hbase hst hline (thn (ho.run pins s σ H _ I h) fun v s1 ⟨x, H1, I1, r1, a, ex, hb, q⟩ => ?_)
  subst ex
  obtain ⟨tx, rfl⟩ := r1
  refine ⟨"str", _, PySem.F.plainAttrs_str, PySem.F.slot_str_replace, PySem.F.type_str_replace, typeIs_str _ _ _, (fun _ e => nomatch e), Calls.callWith_builtin rfl (Calls.evalArgs_plain (Calls.spliced_cons (Calls.Constant_str (Calls.spliced_cons (Calls.Constant_str (Calls.spliced_nil ?_))))))⟩
  exact replN hb fun t' k => ⟨.str a, H1, I1.tok k, ⟨t', rfl⟩, q⟩
structure Txt_Example (K : PySem.W.Frag) (mg : Str → Option Value) (C : Addr) : Prop where
  cl : Cls K C
  mgC : mg "Example" = some (.ref C)
  ha : PySem.W.findIn K (.ref C) "__class__" = some (some (.builtin "object.__class__"))
  hn : PySem.W.specialIn K (.builtin "object.__class__") "__get__" = some (some (.builtin "getset_descriptor.__get__"))
  ht : PySem.W.takesIn K (.builtin "object.__class__") = some true
  hm : PySem.W.mroIn K C (.type "object") = some true
  ko : PySem.W.kitOne K (.ref C) (.ref C) = some true
  n_source : NoAttr K C "source"
  n_want : NoAttr K C "want"
  n_error : NoAttr K C "error"
  n_line : NoAttr K C "line"
  n_indent : NoAttr K C "indent"
  n_options : NoAttr K C "options"
  n_bare : NoAttr K C "bare"
structure Txt_Comment (K : PySem.W.Frag) (mg : Str → Option Value) (C : Addr) : Prop where
  cl : Cls K C
  mgC : mg "Comment" = some (.ref C)
  ha : PySem.W.findIn K (.ref C) "__class__" = some (some (.builtin "object.__class__"))
  hn : PySem.W.specialIn K (.builtin "object.__class__") "__get__" = some (some (.builtin "getset_descriptor.__get__"))
  ht : PySem.W.takesIn K (.builtin "object.__class__") = some true
  hm : PySem.W.mroIn K C (.type "object") = some true
  ko : PySem.W.kitOne K (.ref C) (.ref C) = some true
  n_source : NoAttr K C "source"
  n_want : NoAttr K C "want"
  n_line : NoAttr K C "line"
  n_indent : NoAttr K C "indent"

/-! ### own classes made with keywords left out -/
def gPut (j : Nat) (l vs zs : List V) : List V := vs ++ (l.take j ++ (zs ++ l.drop j))
structure OwnG (P : Program) (w : World) (K : PySem.W.Frag) (mg : Str → Option Value) (base : Heap) (x : Str) (C : Addr) (k : Nat) (ps ks : List Str) (n : Nat) (gV : List V → List V → List V) (sp : Sp) : Prop where
  ex : ∃ f fd g, Mk K C f ∧ FnOk P w K mg base CX0 k f fd ps sp ∧ KBn K fd ps (n + 1) ks g gV ∧ mg x = some (.ref C)
theorem pe_ownG {X : Cx} {x : Str} {C : Addr} {k n : Nat} {ps ks : List Str} {gV : List V → List V → List V} {sp : Sp} {e : Expr} {es : List Expr} {kws : List Keyword} {t tk : TA} {p pos : Pos} (O : OwnG X.prog X.w X.K X.mg X.base x C k ps ks n gV sp) (hr : Room (k + 1) X.A) (hg : Gl X x) (ha : PA X (e :: es) t) (hkw : PK X kws tk)
    (hall : (backToKw pos (keywordEach kws X.env)).all (·.1.isSome) = true := by rfl) (hks : (backToKw pos (keywordEach kws X.env)).filterMap (·.1) = ks := by rfl) (hdb : (x == ("__debug__" : Str)) = false := by decide) (he : starEach (e :: es) X.env = (false, eval e X.env) :: starEach es X.env := by rfl)
    (hpl : ((backTo pos (starEach (e :: es) X.env)).any (·.1) || (backToKw pos (keywordEach kws X.env)).any (·.1.isNone)) = false := by rfl) : PE X (.Call (.Name x p) (e :: es) kws pos) (tMakeK C n ks.length sp gV E0 t tk) := by
  obtain ⟨f, fd, g, M, F, hb, hm⟩ := O.ex
  exact pe_makeK M F hr hg hm hb pass0 ha hkw hall hks hdb he hpl
theorem vals_take : ∀ {vs : List V} {us : List Value} (j : Nat), Vals vs us → Vals (vs.take j) (us.take j)
  | _, _, 0, _ => .nil
  | _, _, _ + 1, .nil => .nil
  | _, _, j + 1, .cons a b => .cons a (vals_take j b)
theorem vals_put {vs mz zs : List V} {us mv ws : List Value} (j : Nat) (r1 : Vals vs us) (r3 : Vals mz mv) (r4 : Vals zs ws) : Vals (vs ++ (mz.take j ++ (zs ++ mz.drop j))) (us ++ (mv.take j ++ (ws ++ mv.drop j))) :=
  vals_app r1 (vals_app (vals_take j r3) (vals_app r4 (r3.drop j)))

/-! ### what a test asks is monotone -/
def MonoT (t : TT) : Prop := ∀ (σ : L2.St) (H : Hp) (Q Q' : Bool → Hp → Prop), (∀ (b : Bool) (H1 : Hp), Q b H1 → Q' b H1) → t σ H Q → t σ H Q'
def MonoE (t : TE) : Prop := ∀ (σ : L2.St) (H : Hp) (Q Q' : VK), (∀ (v : V) (H1 : Hp), Q v H1 → Q' v H1) → t σ H Q → t σ H Q'
def MonoA (t : TA) : Prop := ∀ (σ : L2.St) (H : Hp) (Q Q' : List V → Hp → Prop), (∀ (v : List V) (H1 : Hp), Q v H1 → Q' v H1) → t σ H Q → t σ H Q'
theorem mo_test {t : TE} (h : MonoE t) : MonoT (tTest t) := fun σ H Q Q' i q => h σ H _ _ (fun v H1 ⟨c, e, z⟩ => ⟨c, e, i _ _ z⟩) q
theorem mo_B {t : TE} (h : MonoE t) : MonoT (tB t) := fun σ H Q Q' i q => h σ H _ _ (fun v H1 ⟨c, e, z⟩ => ⟨c, e, i _ _ z⟩) q
theorem mo_not {t : TT} (h : MonoT t) : MonoT (tNot t) := fun σ H Q Q' i q => h σ H _ _ (fun b H1 z => i _ _ z) q
theorem mo_and {t u : TT} (h : MonoT t) (k : MonoT u) : MonoT (tAnd t u) := fun σ H Q Q' i q => h σ H _ _ (fun b H1 z => by
  cases b with
  | true => exact k σ H1 _ _ i z
  | false => exact i _ _ z) q
theorem mo_var {i : Nat} : MonoE (tVar i) := fun σ H Q Q' i ⟨v, e, q⟩ => ⟨v, e, i _ _ q⟩
theorem mo_const {v : V} : MonoE (tC v) := fun σ H Q Q' i q => i _ _ q
theorem mo_op {r : R2} {a b : TE} (hr : ∀ x y H (Q Q' : VK), (∀ (v : V) (H1 : Hp), Q v H1 → Q' v H1) → r x y H Q → r x y H Q') (ha : MonoE a) (hb : MonoE b) : MonoE (tOp r a b) := fun σ H Q Q' i q =>
  ha σ H _ _ (fun x H1 z => hb σ H1 _ _ (fun y H2 z => hr _ _ _ _ _ i z) z) q
theorem mo_nil : MonoA tNil := fun σ H Q Q' i q => i _ _ q
theorem mo_cons {e : TE} {t : TA} (he : MonoE e) (ht : MonoA t) : MonoA (tCons e t) := fun σ H Q Q' i q => he σ H _ _ (fun x H1 z => ht σ H1 _ _ (fun xs H2 z => i _ _ z) z) q
theorem mo_cb {r : List V → Hp → VK → Prop} {t : TA} (hr : ∀ xs H (Q Q' : VK), (∀ (v : V) (H1 : Hp), Q v H1 → Q' v H1) → r xs H Q → r xs H Q') (ht : MonoA t) : MonoE (tCB r t) := fun σ H Q Q' i q => ht σ H _ _ (fun xs H1 z => hr _ _ _ _ i z) q
theorem mo_call {sp : Sp} {dvs : List V} {E : XK} {t : TA} (hs : ∀ vs H (Q Q' : VK) E, (∀ (v : V) (H1 : Hp), Q v H1 → Q' v H1) → sp vs H Q E → sp vs H Q' E) (ht : MonoA t) : MonoE (tCall sp dvs E t) := fun σ H Q Q' i q => ht σ H _ _ (fun vs H1 z => hs _ _ _ _ _ i z) q
theorem mo_m1 {r : V → List V → Hp → VK → Prop} {a b : TE} (hr : ∀ x xs H (Q Q' : VK), (∀ (v : V) (H1 : Hp), Q v H1 → Q' v H1) → r x xs H Q → r x xs H Q') (ha : MonoE a) (hb : MonoE b) : MonoE (tM1 r a b) := fun σ H Q Q' i q =>
  ha σ H _ _ (fun x H1 ⟨e, z⟩ => ⟨e, hb σ H1 _ _ (fun y H2 z => hr _ _ _ _ _ i z) z⟩) q
theorem mo_I0 {g : Int → Int → V} : ∀ x y H (Q Q' : VK), (∀ (v : V) (H1 : Hp), Q v H1 → Q' v H1) → rI0 g x y H Q → rI0 g x y H Q' := fun x y H Q Q' i ⟨a, b, e1, e2, q⟩ => ⟨a, b, e1, e2, i _ _ q⟩
theorem mo_ix {K : PySem.W.Frag} : ∀ x y H (Q Q' : VK), (∀ (v : V) (H1 : Hp), Q v H1 → Q' v H1) → rIxL K x y H Q → rIxL K x y H Q' := fun x y H Q Q' i ⟨p, xs, j, z, e1, e2, e3, e4, q⟩ => ⟨p, xs, j, z, e1, e2, e3, e4, i _ _ q⟩

/-! ### levelled -/
theorem nine_spaces {l : List Nat} (h : ∀ c ∈ l, c ≠ 9) : isBlank l = spaces l := by
  unfold isBlank spaces
  induction l with
  | nil => rfl
  | cons c l ih =>
    have h9 : (c == 9) = false := beq_eq_false_iff_ne.mpr (h c (List.mem_cons_self ..))
    rw [List.all_cons, List.all_cons, h9, Bool.or_false, ih fun d m => h d (List.mem_cons_of_mem _ m)]
theorem exp_no9 (n col : Nat) (l : List Nat) : ∀ c ∈ Mun.expT n col l, c ≠ 9 := fun c h => by
  rcases Mun.exp_mem l col c h with rfl | ⟨_, h⟩
  · decide
  · exact h
theorem exp_no (n col : Nat) {l : List Nat} {d : Nat} (hd : d ≠ 32) (hl : d ∉ l) : d ∉ Mun.expT n col l := fun h => by
  rcases Mun.exp_mem l col d h with e | ⟨e, _⟩
  · exact hd e
  · exact hl e
theorem mk_of_tl : ∀ {ss : List Str} {ws : List (List Nat)}, ss.map tl = ws → ss = ws.map mk
  | [], ws, h => by
    rw [← h]
    rfl
  | s :: r, ws, h => by
    rw [← h, List.map_cons, List.map_cons, mk_tl', ← mk_of_tl (ss := r) rfl]
theorem split_join {x : Str} {ws : List (List Nat)} (h : tl x = joinL [10] ws) (hn : ws ≠ []) (h10 : ∀ l ∈ ws, (10 : Nat) ∉ l) : Txt.split x "\n" = ws.map mk := by
  refine mk_of_tl ?_
  rw [nl_eq, splitOf x (y := [10]) (by simp) (by decide), h]
  exact TL.spl_join hn h10
theorem sp_one : (" " : Str) = ⟨#[32]⟩ := ext_tl (by decide +kernel)
theorem len_one {a : Nat} : (⟨#[a]⟩ : Str).length = 1 := rfl
theorem lead_take (ws : List (List Nat)) {i : Nat} {l : List Nat} (h : ws[i]? = some l) : leads (ws.take (i + 1)) = leads (ws.take i) ++ (if spaces l then [] else [lead l]) := by
  unfold leads
  rw [take_filter _ h, List.map_append]
  cases spaces l <;> rfl
def natV (ns : List Nat) : List V := (ns.map fun n : Nat => (n : Int)).map V.int
theorem natV_app (a b : List Nat) : natV (a ++ b) = natV a ++ natV b := by
  unfold natV
  rw [List.map_append, List.map_append]
theorem leads_len (ws : List (List Nat)) : (leads ws).length ≤ ws.length := by
  unfold leads
  rw [List.length_map]
  exact List.length_filter_le ..
theorem join_parts : ∀ ws : List (List Nat), ws.length ≤ (joinL [10] ws).length + 1 ∧ ∀ l ∈ ws, l.length ≤ (joinL [10] ws).length
  | [] => ⟨Nat.zero_le _, fun _ h => (by cases h)⟩
  | [a] => ⟨by show 1 ≤ _; omega, fun l h => by rw [List.mem_singleton.mp h]; exact Nat.le_refl _⟩
  | a :: b :: r => by
    have ih := join_parts (b :: r)
    have e : joinL [10] (a :: b :: r) = a ++ ([10] ++ joinL [10] (b :: r)) := rfl
    have el : (joinL [10] (a :: b :: r)).length = a.length + (1 + (joinL [10] (b :: r)).length) := by rw [e, List.length_append, List.length_append]; rfl
    refine ⟨by rw [el, List.length_cons]; omega, fun l h => ?_⟩
    rcases List.mem_cons.mp h with rfl | h
    · omega
    · have := ih.2 l h
      omega
theorem app_len (x y : Str) : (x ++ y).length = x.length + y.length := by
  rw [len_tl, tl_append, List.length_append, len_tl, len_tl]
theorem nl_sum (m : Nat) (ws : List (List Nat)) (h : ws ≠ []) (hl : ∀ l ∈ ws, l.length ≤ m) : (joinL [10] ws).length + 1 ≤ m * ws.length + ws.length := by
  have a := joinL_len [10] h
  have b := sum_map_le (fun l : List Nat => l.length) (fun _ => m) ws hl
  have c : (ws.map fun _ => m).sum = m * ws.length := by
    clear a b h hl
    induction ws with
    | nil => rfl
    | cons x r ih =>
      rw [List.map_cons, List.sum_cons, ih, List.length_cons, Nat.mul_succ]
      omega
  have e1 : ([10] : List Nat).length = 1 := rfl
  rw [e1] at a
  omega
theorem sp_dec (c : Nat) : decide (V.str ⟨#[c]⟩ = V.str " ") = (c == 32) := by
  rw [sp_one, Bool.eq_iff_iff, decide_eq_true_iff, beq_iff_eq]
  constructor
  · intro h
    exact List.head_eq_of_cons_eq (congrArg (fun v => match v with | V.str y => tl y | _ => []) h)
  · rintro rfl
    rfl
theorem mem_join0 {c : Nat} : ∀ ws : List (List Nat), c ∈ joinL [] ws → ∃ u ∈ ws, c ∈ u
  | [], h => by cases h
  | [a], h => ⟨a, List.mem_cons_self .., h⟩
  | a :: b :: r, h => by
    have e : joinL [] (a :: b :: r) = a ++ ([] ++ joinL [] (b :: r)) := rfl
    rw [e, List.nil_append] at h
    rcases List.mem_append.mp h with h | h
    · exact ⟨a, List.mem_cons_self .., h⟩
    · obtain ⟨u, h1, h2⟩ := mem_join0 (b :: r) h
      exact ⟨u, List.mem_cons_of_mem _ h1, h2⟩
theorem lines_sum {ws : List (List Nat)} (h : ws ≠ []) (m : Nat) : ((ws.map fun l => mk (l.drop m)).map (·.length)).sum + ws.length ≤ (joinL [10] ws).length + 1 := by
  have a := joinL_len [10] h
  have b := sum_map_le (fun l : List Nat => (mk (l.drop m)).length) (fun l => l.length) ws fun l _ => by
    show (mk (l.drop m)).length ≤ l.length
    rw [mk_len, List.length_drop]
    omega
  rw [List.map_map]
  have e : ((fun x : Str => x.length) ∘ fun l : List Nat => mk (l.drop m)) = fun l : List Nat => (mk (l.drop m)).length := rfl
  rw [e]
  have e1 : ([10] : List Nat).length = 1 := rfl
  rw [e1] at a
  omega
theorem join_lev (ws : List (List Nat)) : Txt.join "\n" (ws.map fun l => mk (l.drop (leastN (leads ws)))) = mk (joinL [10] (levW ws)) := by
  have e : (ws.map fun l => mk (l.drop (leastN (leads ws)))) = (levW ws).map mk := by
    unfold levW
    rw [List.map_map]
    rfl
  rw [e]
  exact join_mk [10] _
theorem tab_dec (c : Nat) : decide (V.str ⟨#[c]⟩ = V.str "\t") = decide (c = 9) := by
  rw [tab_eq, Bool.eq_iff_iff, decide_eq_true_iff, decide_eq_true_iff]
  constructor
  · intro h
    exact List.head_eq_of_cons_eq (congrArg (fun v => match v with | V.str y => tl y | _ => []) h)
  · rintro rfl
    rfl
theorem strip_test (x : Str) : decide (V.str (Txt.stripChars x " ") = V.str "") = spaces (tl x) := by
  rw [sp_one, Bool.eq_iff_iff, decide_eq_true_iff, ← spaces_strip]
  constructor
  · intro h
    rw [V.str.inj h]
    decide +kernel
  · intro h
    refine congrArg V.str (ext_tl ?_)
    rw [len_tl] at h
    rw [List.length_eq_zero_iff.mp h]
    decide +kernel

section
variable {P : Program} {w : World} {K : PySem.W.Frag} {mg : Str → Option Value} {base : Heap}
/-! ### the program -/
def sp_is_blank : Sp := fun vs H Q _ => ∃ x : Str, vs = [.str x] ∧ x.length ≤ 1000000 ∧ Q (.bl (isBlank (tl x))) H
theorem ok_is_blank {f : Addr} {fd : FuncData} {dvs : List V} (F : Fn K "is_blank" s_is_blank dvs f fd) {t_BLANKS : Tok} (c_BLANKS : mg "BLANKS" = some (.str " \t" t_BLANKS)) : FnOk P w K mg base CX0 1 f fd ["line"] (sp_is_blank) := by
  refine Fn.okN F sc_is_blank (fun vs H Q E h => ?_) (fun cdv A outer s H vs Q E hr h => ?_)
  · obtain ⟨_, rfl, _⟩ := h
    rfl
  · obtain ⟨x, rfl, hx, k⟩ := h
    refine ⟨_, (pss_one (ps_ret (pe_notT (pe_m1 PySem.F.slot_str_strip PySem.F.type_str_strip mt_stripChars (pv 0) (pe_glob (v := .str " \t") rfl c_BLANKS ⟨_, rfl⟩))))), ?_⟩
    have e : (" \t" : Str) = ⟨#[32, 9]⟩ := ext_tl (by decide +kernel)
    refine ⟨_, rfl, ⟨_, rfl⟩, x, " \t", rfl, rfl, line_of hx, _, ⟨?_, rfl⟩, ?_⟩
    · exact Nat.le_trans (len_stripBy _ _ _ _) (line_of hx)
    · rw [e]
      have hb := blank_strip x
      cases h : isBlank (tl x) with
      | true =>
        rw [h] at k
        rw [show (((Txt.stripChars x ⟨#[32, 9]⟩).length : Int) != 0) = false by rw [hb.mpr h]; rfl]
        exact k
      | false =>
        rw [h] at k
        have hne : (Txt.stripChars x ⟨#[32, 9]⟩).length ≠ 0 := fun z => by
          rw [hb.mp z] at h
          cases h
        rw [show (((Txt.stripChars x ⟨#[32, 9]⟩).length : Int) != 0) = true by
          rw [bne_iff_ne]
          omega]
        exact k
def sp_indent_of : Sp := fun vs H Q _ => ∃ x : Str, vs = [.str x] ∧ x.length ≤ 1000000 ∧ Q (.int (lead (tl x) : Nat)) H
def sp_widened : Sp := fun vs H Q _ => ∃ x : Str, vs = [.str x] ∧ (tl x).length ≤ 10000 ∧ Q (.str (SX.S (Mun.expT 8 0 (tl x)))) H
def sp_levelled : Sp := fun vs H Q _ => ∃ (x : Str) (ls : List (List Nat)), vs = [.str x] ∧ tl x = joinL [10] ls ∧ ls ≠ [] ∧ (∀ l ∈ ls, ∀ c ∈ l, c ≠ 10 ∧ c ≠ 13) ∧ (tl x).length ≤ 10000 ∧
  ∀ H', Same H H' → Q (.str (mk (joinL [10] (levW (ls.map (Mun.expT 8 0)))))) H'
end

def v_HEADERS : List Str := []
theorem len_app (x y : Str) : (x ++ y).length = x.length + y.length := by
  rw [len_tl, tl_append, List.length_append, ← len_tl, ← len_tl]

/-! ### lines, kept and bare -/
theorem kit_self (K : PySem.W.Frag) (C : Addr) : PySem.W.kitOne K (.ref C) (.ref C) = some true := by
  unfold PySem.W.kitOne
  exact if_pos (by first | exact beq_self_eq_true _ | (show (C == C) = true; exact beq_self_eq_true C))
theorem bnd_items {K : PySem.W.Frag} {s : Shared} {fd : FuncData} {args : Args} {binds : List (Str × Value)} {T : Addr} {o : Obj} {its : Array Value} {n : Nat} (X : K.In s.heap) (lT : K.lookup T = some o) (oT : o.data = .seq its n) (h : ∃ k, bindArgs fd args = seqItems? (.ref T) >>= k ∧ k (some its) = pure binds) : BindsTo s fd args binds := L2.BindsTo.of_looks fun M => by
  obtain ⟨k, e1, e2⟩ := h
  rw [e1]
  exact looks_items X lT oT (PySem.W.Looks.of_pure e2)
def rowsV (ws : List (List Nat)) : HO := .lst ((ws.map mk).map V.str)
def ifAny (last : List Nat) : List (List Nat) := if last.isEmpty = true then [] else [last]
def keptOf (init : List (List Nat)) (last : List Nat) : List (List Nat) := init.map (· ++ [10]) ++ ifAny last
def rowsOf (init : List (List Nat)) (last : List Nat) : List (List Nat) := init ++ ifAny last
def bg (x y : Str) : Bool := Txt.startswith (Txt.lstripChars x " ") y
def X0 : List Nat := [62, 62, 62, 32, 120]
def wordS : List Nat → Bool
  | [] => false
  | c :: _ => c == 95 || Txt.isalnum ⟨#[c]⟩
def isHead (h : List Nat) : Bool := inV (.str (Txt.rstripChars (mk h) " ")) (v_HEADERS.map V.str)
def noNl (l : List Nat) : List Nat := tl (Txt.removesuffix (mk l) "\n")
def flatO : List (List Nat) → Option (List Nat)
  | [] => none
  | d => some (joinL [] d)
def errP : List (List Nat) → Option (List Nat)
  | [] => none
  | h :: r => if isHead (noNl h) = true then flatO (r.dropWhile fun l => !wordS l) else none
def errL : List (List Nat) → Option (List Nat)
  | [] => none
  | h :: r => if isHead h = true then flatO ((r.dropWhile fun l => !wordS l).map (· ++ [10])) else none
def optV : Option (List Nat) → V
  | none => .non
  | some l => .str (mk l)
theorem ten_eq : ("\n" : Str) = ⟨#[10]⟩ := ext_tl (by decide +kernel)
theorem noNl_fed (l : List Nat) : noNl (l ++ [10]) = l := by
  have k := (StrLaws.subAt_one (mk (l ++ [10])) 10 l.length).mpr (by
    show (l ++ [10])[l.length]? = some 10
    rw [List.getElem?_append_right (Nat.le_refl _), Nat.sub_self]
    rfl)
  have hl : (mk (l ++ [10])).length = l.length + 1 := by rw [mk_len, List.length_append]; rfl
  have l1 : (⟨#[10]⟩ : Str).length = 1 := rfl
  unfold noNl Txt.removesuffix
  rw [ten_eq, hl, l1, Nat.add_sub_cancel, k.2, Bool.and_true, decide_eq_true (by omega), if_pos rfl]
  unfold Txt.affix
  dsimp only
  rw [hl, Nat.sub_zero, show (l.length == l.length + 1) = false by rw [beq_eq_false_iff_ne]; omega, if_neg Bool.false_ne_true]
  rw [tl_strSub, List.drop_zero, Nat.sub_zero]
  show (l ++ [10]).take l.length = l
  rw [List.take_left]
theorem find3_none {x : Str} (h : (35 : Nat) ∉ tl x) (i : Int) : Txt.find3 x "#" i = -1 := by
  have e : ("#" : Str) = ⟨#[35]⟩ := ext_tl (by decide +kernel)
  unfold Txt.find3
  rcases StrLaws.occ_head_from x "#" (fromIndex x.length i) 1 (Nat.le_refl _) with ⟨h0, _⟩ | ⟨j, r, h0, _, hj, _⟩
  · rw [h0]
  · rw [e] at hj
    exact absurd (List.mem_of_getElem? (show (tl x)[j]? = some 35 from (StrLaws.subAt_one x 35 j).mp hj)) h
theorem kept_ne (init : List (List Nat)) (last : List Nat) : ∀ l ∈ keptOf init last, l ≠ [] := fun l hl => by
  rcases List.mem_append.mp hl with h | h
  · obtain ⟨l', _, rfl⟩ := List.mem_map.mp h
    simp
  · unfold ifAny at h
    cases last with
    | nil => cases h
    | cons c r =>
      rw [List.mem_singleton.mp h]
      simp
theorem sum_fed : ∀ ls : List (List Nat), ((ls.map (· ++ [10])).map (·.length)).sum = (ls.map (·.length)).sum + ls.length
  | [] => rfl
  | l :: r => by
    have ih := sum_fed r
    rw [List.map_cons, List.map_cons, List.map_cons, List.sum_cons, List.sum_cons, ih, List.length_append, List.length_cons (a := l) (as := r)]
    show l.length + 1 + _ = _
    omega
theorem kept_sum (init : List (List Nat)) (last : List Nat) : ((keptOf init last).map (·.length)).sum ≤ (joinL [10] (init ++ [last])).length := by
  have a := joinL_len [10] (ps := init ++ [last]) (by simp)
  have e1 : ([10] : List Nat).length = 1 := rfl
  rw [e1, List.map_append, List.sum_append, List.length_append] at a
  have c : ([last].map (·.length)).sum = last.length := by
    show last.length + 0 = _
    omega
  rw [c] at a
  have e2 : [last].length = 1 := rfl
  rw [e2] at a
  unfold keptOf ifAny
  rw [List.map_append, List.sum_append, sum_fed]
  split
  · show _ + 0 ≤ _
    omega
  · rw [c]
    omega
theorem drop_sum : ∀ (ws : List (List Nat)) (k : Nat), ((ws.drop k).map (·.length)).sum ≤ (ws.map (·.length)).sum
  | [], k => by
    rw [List.drop_nil]
    exact Nat.le_refl _
  | w :: r, 0 => Nat.le_refl _
  | w :: r, k + 1 => by
    have ih := drop_sum r k
    rw [List.drop_succ_cons, List.map_cons, List.sum_cons]
    omega
theorem cutV_drop (xs : List V) (k : Nat) (h : k ≤ xs.length) : cutV xs (some (k : Int)) none = xs.drop k := by
  unfold cutV
  rw [HT.sIx_nat, HT.sIx_none, Nat.min_eq_left h]
  exact List.take_of_length_le (by rw [List.length_drop]; omega)
theorem dropWhile_at {p : List Nat → Bool} : ∀ {r : List (List Nat)} {i : Nat} {l : List Nat}, r[i]? = some l → p l = false → (∀ j l', j < i → r[j]? = some l' → p l' = true) → r.dropWhile p = r.drop i
  | [], i, l, h, _, _ => by cases h
  | a :: r, 0, l, h, hp, _ => by
    cases h
    rw [List.dropWhile_cons, hp]
    rfl
  | a :: r, i + 1, l, h, hp, ha => by
    rw [List.dropWhile_cons, ha 0 a (Nat.zero_lt_succ _) rfl]
    show r.dropWhile p = r.drop i
    exact dropWhile_at h hp fun j l' hj hl => ha (j + 1) l' (Nat.succ_lt_succ hj) hl
theorem dropWhile_none {p : List Nat → Bool} : ∀ {r : List (List Nat)}, (∀ l ∈ r, p l = true) → r.dropWhile p = []
  | [], _ => rfl
  | a :: r, h => by
    rw [List.dropWhile_cons, h a (List.mem_cons_self ..)]
    exact dropWhile_none fun l hl => h l (List.mem_cons_of_mem _ hl)
theorem us_dec (c : Nat) : decide (V.str ⟨#[c]⟩ = V.str "_") = (c == 95) := by
  have e : ("_" : Str) = ⟨#[95]⟩ := ext_tl (by decide +kernel)
  rw [e, Bool.eq_iff_iff, decide_eq_true_iff, beq_iff_eq]
  constructor
  · intro h
    exact List.head_eq_of_cons_eq (congrArg (fun v => match v with | V.str y => tl y | _ => []) h)
  · rintro rfl
    rfl
theorem noNl_free {l : List Nat} (h : (10 : Nat) ∉ l) : noNl l = l := by
  have l1 : (⟨#[10]⟩ : Str).length = 1 := rfl
  unfold noNl Txt.removesuffix
  rw [ten_eq, l1]
  cases hb : (decide (1 ≤ (mk l).length) && Builtin.Str.subAt (mk l) ⟨#[10]⟩ ((mk l).length - 1)) with
  | false =>
    rw [if_neg Bool.false_ne_true]
    rfl
  | true =>
    rw [Bool.and_eq_true, decide_eq_true_eq] at hb
    have k := (StrLaws.subAt_one (mk l) 10 ((mk l).length - 1)).mp ⟨by rw [l1]; omega, hb.2⟩
    exact absurd (List.mem_of_getElem? (show l[_]? = some 10 from k)) h
theorem starts_empty (x : Str) : Txt.startswith x "" = true := by
  have e : ("" : Str) = ⟨#[]⟩ := ext_tl (by decide +kernel)
  unfold Txt.startswith
  rw [e, Nat.zero_add, StrLaws.subAt_eq, List.drop_zero]
  show (decide (0 ≤ x.length) && ((tl x).take 0 == [])) = true
  rw [decide_eq_true (Nat.zero_le _), List.take_zero]
  rfl
theorem ends_ten (l : List Nat) : Txt.endswith (mk (l ++ [10])) "\n" = true := by
  have k := (StrLaws.subAt_one (mk (l ++ [10])) 10 l.length).mpr (by
    show (l ++ [10])[l.length]? = some 10
    rw [List.getElem?_append_right (Nat.le_refl _), Nat.sub_self]
    rfl)
  have hl : (mk (l ++ [10])).length = l.length + 1 := by rw [mk_len, List.length_append]; rfl
  have l1 : (⟨#[10]⟩ : Str).length = 1 := rfl
  unfold Txt.endswith
  rw [ten_eq, hl, l1, Nat.add_sub_cancel, k.2, Bool.and_true, decide_eq_true (by omega)]
theorem joinL_more (S a : List Nat) {ps : List (List Nat)} (h : ps ≠ []) : joinL S (a :: ps) = a ++ (S ++ joinL S ps) := by
  cases ps with
  | nil => exact absurd rfl h
  | cons b r => rfl
theorem joinL_flat (a : List Nat) (r : List (List Nat)) : joinL [] (a :: r) = a ++ joinL [] r := by
  cases r with
  | nil =>
    show a = a ++ []
    rw [List.append_nil]
  | cons b r => rfl
theorem join_ten : ∀ ls : List (List Nat), joinL [10] (ls ++ [[]]) = joinL [] (ls.map (· ++ [10]))
  | [] => rfl
  | a :: r => by
    rw [List.cons_append, joinL_more _ _ (by simp), join_ten r, List.map_cons, joinL_flat, List.append_assoc]
theorem flat_ten : ∀ ls : List (List Nat), ls ≠ [] → ∃ m, joinL [] (ls.map (· ++ [10])) = m ++ [10]
  | [], h => absurd rfl h
  | [a], _ => ⟨a, rfl⟩
  | a :: b :: r, _ => by
    obtain ⟨m, e⟩ := flat_ten (b :: r) (by simp)
    rw [List.map_cons, joinL_flat, e]
    exact ⟨(a ++ [10]) ++ m, (List.append_assoc ..).symm⟩
theorem flat_len (ls : List (List Nat)) : (joinL [] (ls.map (· ++ [10]))).length = (ls.map (·.length)).sum + ls.length := by
  rw [← sum_fed]
  generalize ls.map (· ++ [10]) = k
  induction k with
  | nil => rfl
  | cons a r ih => rw [joinL_flat, List.length_append, ih, List.map_cons, List.sum_cons]
theorem err_ten (ls : List (List Nat)) : optV (errP (ls.map (· ++ [10]))) = .non ∨ ∃ e : Str, optV (errP (ls.map (· ++ [10]))) = .str e ∧ Txt.endswith e "\n" = true := by
  cases ls with
  | nil => exact .inl rfl
  | cons h r =>
    unfold errP
    rw [List.map_cons]
    dsimp only
    split
    · rw [List.dropWhile_map]
      generalize r.dropWhile _ = z
      cases z with
      | nil => exact .inl rfl
      | cons a b =>
        obtain ⟨m, e⟩ := flat_ten (a :: b) (by simp)
        refine .inr ⟨mk (joinL [] ((a :: b).map (· ++ [10]))), rfl, ?_⟩
        rw [e]
        exact ends_ten m
    · exact .inl rfl
theorem cutV_seg (xs : List V) (a b : Nat) (h1 : a ≤ b) (h2 : b ≤ xs.length) : cutV xs (some (a : Int)) (some (b : Int)) = (xs.drop a).take (b - a) := by
  unfold cutV
  rw [HT.sIx_nat, HT.sIx_nat, Nat.min_eq_left h2, Nat.min_eq_left (Nat.le_trans h1 h2)]
theorem le_sum {l : List Nat} : ∀ {ls : List (List Nat)}, l ∈ ls → l.length ≤ (ls.map (·.length)).sum
  | a :: r, h => by
    rw [List.map_cons, List.sum_cons]
    rcases List.mem_cons.mp h with rfl | h
    · omega
    · have := le_sum h
      omega
theorem rsuf_len (x y : Str) : (Txt.removesuffix x y).length ≤ x.length := by
  unfold Txt.removesuffix
  split
  · unfold Txt.affix
    dsimp only
    split
    · exact Nat.le_refl _
    · rw [len_tl, len_tl, tl_strSub, List.length_take, List.length_drop]
      omega
  · exact Nat.le_refl _
theorem ite_er {k : Bool} {er : V} {σ : L2.St} {H : Hp} {Q : VK} {u : TE} (c : Q er H) (ha : k = true → er = .non) (b : k = false → ∀ e : Str, er = .str e → Txt.endswith e "\n" = true → Q (.str e) H → u σ H Q) (hb : k = false → ∃ e : Str, er = .str e ∧ Txt.endswith e "\n" = true) : if k = true then tC .non σ H Q else u σ H Q := by
  cases k with
  | true =>
    rw [ha rfl] at c
    exact iteT c
  | false =>
    obtain ⟨e, e1, e2⟩ := hb rfl
    refine iteF (b rfl e e1 e2 ?_)
    rw [← e1]
    exact c
theorem ite_same {k : Bool} {A B C : Prop} (c : C) (a : k = true → C → A) (b : k = false → C → B) : if k = true then A else B := by
  cases k with
  | true => exact iteT (a rfl c)
  | false => exact iteF (b rfl c)
def Out (x : Addr) (H H' : Hp) : Prop := ∀ b o, H b = some o → b ≠ x → H' b = some o
theorem Out.same {x : Addr} {H H1 H2 : Hp} (a : Out x H H1) (s : Same H1 H2) : Out x H H2 := fun b o e n => s _ _ (a b o e n)
theorem Out.put {x : Addr} {o' : HO} {H H1 : Hp} (a : Out x H H1) : Out x H (upd H1 x o') := fun b o e n => by
  rw [upd_ne n]
  exact a b o e n
theorem put_len {f : Str} {v : V} {fs : List (Str × V)} {n : Nat} (h : fs.length ≤ n) : (putF f v fs).length ≤ n + 1 := Nat.le_trans (length_putF f v fs) (Nat.succ_le_succ h)
/-! ### what gives a token out; words -/
section
theorem pi_listK {X : Cx} {K' : PySem.W.Frag} (hK : X.K = K') {tg l : Expr} {tl : TE} (hl : PE X l tl) : PI X tg l (iList K' tl) := by
  subst hK
  exact pi_list hl
variable {X : Cx} {a o : Expr} {ta to : TE} {pos : Pos}
theorem ek_ix {r : R2} {n : Int} {j : Nat} {pos' : Pos} (hr : IxR X r) (ha : PE X a ta) (hs : PlainIx (.Constant (.int n) j pos')) : EK X (.Subscript a (.Constant (.int n) j pos') pos) (tOp r ta (tC (.int n))) := by
  refine ⟨fun pins s σ H Q I h => Subscript_ (thn (ha.run pins s σ H _ I h) fun v s1 ⟨x, H1, I1, r1, q1⟩ => wpAny_Constant_int (thnK (Nat.le_add_left 1 _) (hr a _ pins _ σ H1 x (.int n) v _ _ (I1.tok _) r1 ⟨_, rfl⟩ q1 (hs _ _)) fun w s3 k3 q => ⟨k3, q⟩))⟩
theorem pe_replK {y z : Str} {j0 j1 : Nat} {c0 c1 apos pos : Pos} (ho : EK X o to) (hyz : (y == z) = false) (hst : starEach [.Constant (.str y) j0 c0, .Constant (.str z) j1 c1] X.env = [(false, eval (.Constant (.str y) j0 c0) X.env), (false, eval (.Constant (.str z) j1 c1) X.env)] := by rfl)
    (hbase : attributeBase o "replace" X.env (eval o X.env) = eval o X.env := by rfl) (hline : (apos.endLine == pos.line) = true := by rfl) :
    PE X (.Call (.Attribute o "replace" apos) [.Constant (.str y) j0 c0, .Constant (.str z) j1 c1] [] pos) (tRepl y z to) := by
  refine ⟨fun pins s σ H Q I h => ?_⟩
  refine PySem.Call_method2 hbase hst hline (thn (ho.run pins s σ H _ I h) fun v s1 ⟨k1, x, H1, I1, r1, a, ex, hb, q⟩ => ?_)
  subst ex
  obtain ⟨tx, rfl⟩ := r1
  refine ⟨"str", _, PySem.F.plainAttrs_str, PySem.F.slot_str_replace, PySem.F.type_str_replace, typeIs_str _ _ _, (fun _ e => nomatch e), Calls.callWith_builtin rfl (Calls.evalArgs_plain (Calls.spliced_cons (Calls.Constant_str (Calls.spliced_cons (Calls.Constant_str (Calls.spliced_nil ?_))))))⟩
  exact PySem.SC.replace (show s1.toks ≠ 0 by omega) (show s1.toks + 1 ≠ 0 by omega) (show s1.toks ≠ s1.toks + 1 by omega) hyz hb fun t' k => ⟨.str (Txt.replace a y z), H1, I1.tok k, ⟨t', rfl⟩, q⟩
end
theorem occ_absent {x : Str} {c : Nat} (h : c ∉ tl x) : (Builtin.Str.occurrences x ⟨#[c]⟩ 0 x.length (x.length + 1)).isEmpty = true := by
  rcases StrLaws.occ_head x ⟨#[c]⟩ (x.length + 1) (by omega) with ⟨e, _⟩ | ⟨i, r, _, at_, _⟩
  · rw [e]
    rfl
  · exfalso
    have k := (StrLaws.subAt_one x c i).mp at_
    exact h (List.mem_of_getElem? (show (tl x)[i]? = some c from k))
theorem split_sizes (x : Str) {y : List Nat} (hy : y ≠ []) (h : y.all (· < 256) = true) : ((Txt.split x ⟨y.toArray⟩).map (·.length)).sum ≤ x.length ∧ (Txt.split x ⟨y.toArray⟩).length ≤ x.length + 1 := by
  have e := splitOf x hy h
  have s := spl_sizes (tl x) hy h
  rw [← e, List.map_map, List.length_map, ← len_tl] at s
  have e2 : (List.length ∘ tl) = fun z : Str => z.length := by
    funext z
    exact (len_tl z).symm
  rw [e2] at s
  exact s
theorem split_mem (x : Str) {y : List Nat} (hy : y ≠ []) (h : y.all (· < 256) = true) {z : Str} (hz : z ∈ Txt.split x ⟨y.toArray⟩) : z.length ≤ x.length := by
  have s := (split_sizes x hy h).1
  have : ∀ (l : List Str), z ∈ l → z.length ≤ (l.map (·.length)).sum := by
    intro l
    induction l with
    | nil => intro h; cases h
    | cons a r ih =>
      intro h
      rw [List.map_cons, List.sum_cons]
      rcases List.mem_cons.mp h with e | e
      · rw [e]
        omega
      · have := ih e
        omega
  have := this _ hz
  omega
theorem replL_one (c d : Nat) : ∀ l : List Nat, StrLaws.replL [c] [d] l = l.map fun e => if e == c then d else e
  | [] => by rw [StrLaws.replL_nil]; rfl
  | e :: r => by
    have ih := replL_one c d r
    unfold StrLaws.replL at ih ⊢
    unfold StrLaws.replS
    rw [List.map_cons, ← ih]
    by_cases h : e = c
    · subst h
      rw [if_pos (show List.take [e].length (e :: r) = [e] from rfl), beq_self_eq_true]
      rfl
    · rw [if_neg (by simpa using h), beq_eq_false_iff_ne.mpr h]
      rfl
theorem replace_map (x : Str) (c d : Nat) : tl (Txt.replace x ⟨[c].toArray⟩ ⟨[d].toArray⟩) = (tl x).map fun e => if e == c then d else e := by
  have h := StrLaws.replace_list (x := x) (y := ⟨[c].toArray⟩) (z := ⟨[d].toArray⟩) (Nat.le_refl _)
  show (Txt.replace x ⟨[c].toArray⟩ ⟨[d].toArray⟩).cps.toList = _
  rw [h]
  exact replL_one c d (tl x)
def full (z : Str) : Bool := !(tl z).isEmpty
theorem full_len (z : Str) : ((z.length : Int) != 0) = full z := by
  unfold full
  rw [len_tl, emptyEq]
  rw [Bool.eq_iff_iff]
  simp
/-- what stands behind the first colon -/
def behindC (y : Str) : Str := (Txt.partition y ":").2.2
def sgSub (a b : Str) : Prop := ∀ c ∈ tl a, c ∈ tl b
theorem strSub_sub (x : Str) (i j : Nat) : sgSub (Builtin.Str.strSub x i j) x := fun c hc => by
  rw [tl_strSub] at hc
  exact List.mem_of_mem_drop (List.mem_of_mem_take hc)
theorem behind_sub (y : Str) : sgSub (behindC y) y ∧ (behindC y).length ≤ y.length := by
  unfold behindC Txt.partition
  split
  · refine ⟨strSub_sub _ _ _, ?_⟩
    rw [len_tl, tl_strSub, List.length_take, List.length_drop, ← len_tl]
    omega
  · exact ⟨fun c hc => (by cases hc), Nat.zero_le _⟩
theorem cut_sub (x : Str) (a b : Option Int) : sgSub (cutS x a b) x ∧ (cutS x a b).length ≤ x.length := by
  refine ⟨fun c hc => ?_, ?_⟩
  · have h : c ∈ ((tl x).drop (HT.sIx x.length 0 a)).take (HT.sIx x.length x.length b - HT.sIx x.length 0 a) := hc
    exact List.mem_of_mem_drop (List.mem_of_mem_take h)
  · show (cutS x a b).length ≤ _
    rw [len_tl]
    show (((tl x).drop (HT.sIx x.length 0 a)).take (HT.sIx x.length x.length b - HT.sIx x.length 0 a)).length ≤ _
    rw [List.length_take, List.length_drop, ← len_tl]
    omega
def wordsS (x : Str) : List Str := (Txt.split x " ").filter full
theorem cut_one (l : List Nat) : cutS (mk l) none (some (1 : Int)) = mk (l.take 1) := by
  refine ext_tl ?_
  show (l.drop (HT.sIx (mk l).length 0 none)).take (HT.sIx (mk l).length (mk l).length (some ((1 : Nat) : Int)) - HT.sIx (mk l).length 0 none) = l.take 1
  rw [HT.sIx_none, HT.sIx_nat, List.drop_zero, Nat.sub_zero, mk_len]
  cases l with
  | nil => rfl
  | cons c r =>
    rw [List.length_cons, Nat.min_eq_left (by omega)]
section
variable {P : Program} {w : World} {K : PySem.W.Frag} {mg : Str → Option Value} {base : Heap}
def Rows10 (ls : List (List Nat)) : Prop := ∀ l ∈ ls, (10 : Nat) ∉ l
def sp_kept_lines : Sp := fun vs H Q _ => ∃ (x : Str) (init : List (List Nat)) (last : List Nat), vs = [.str x] ∧ tl x = joinL [10] (init ++ [last]) ∧ Rows10 (init ++ [last]) ∧ x.length ≤ 10000 ∧
  ∀ (H' : Hp) (p : Addr), Same H H' → H p = none → H' p = some (rowsV (keptOf init last)) → Q (.ref p) H'
theorem ok_kept_lines {f : Addr} {fd : FuncData} {dvs : List V} (F : Fn K "kept_lines" s_kept_lines dvs f fd) : FnOk P w K mg base CX0 1 f fd ["text"] (sp_kept_lines) := by
  refine Fn.okN F sc_kept_lines (fun vs H Q E h => ?_) (fun cdv A outer s H vs Q E hr h => ?_)
  · obtain ⟨_, _, _, rfl, _⟩ := h
    rfl
  · obtain ⟨x, init, last, rfl, ex, h10, hx, k⟩ := h
    refine ⟨_, (pss_cons (ps_asg (pe_m1 PySem.F.slot_str_split PySem.F.type_str_split mt_split (pv 0) pe_str) (pg_star rfl (pgs_cons (pg_name (i := 1) sc_kept_lines.nd rfl (.inl rfl)) (pgs_cons (pg_name (i := 2) sc_kept_lines.nd rfl (.inl rfl)) pgs_nil))))
      (pss_cons (ps_setLc (i := 3) (own := [("line", 4)]) (g := gName 4) (tt := tYes) (by rfl) sc_kept_lines.nd rfl rfl (sw_true rfl rfl rfl (by decide +kernel)) (pi_list (pv 1)) (blkOk_by (own := [("line", 4)]) (N := ["text", "lines", "rest", "kept", "line"]) (sc := defScope s_kept_lines) (by decide +kernel)) (fun _ _ _ _ _ => (pg_name (i := 4) sc_kept_lines.nd rfl (.inl rfl))) (fun _ _ _ _ _ => pts_nil) (fun _ _ _ _ _ => (pe_op op_add_str (pv 4) pe_str)))
      (pss_one (ps_ret (pe_ifExp (pt_tr (K' := K) (pv 2)) (pe_op op_cat (pv 3) (pe_lst (pa_cons (pv 2) pa_nil))) (pv 3)))))), ?_⟩
    have lt : (tl x).length ≤ 10000 := by rw [← len_tl]; exact hx
    have jp := join_parts (init ++ [last])
    rw [← ex, List.length_append] at jp
    have l1 : ("\n" : Str).length = 1 := rfl
    have hil : ∀ l ∈ init, l.length ≤ 10000 := fun l hl => Nat.le_trans (jp.2 l (List.mem_append_left _ hl)) lt
    have hin : init.length ≤ 10001 := by omega
    refine ⟨.str x, rfl, ⟨_, rfl⟩, x, "\n", rfl, rfl, by decide +kernel, line_of (by omega), fun p np => ?_⟩
    rw [split_join ex (by simp) h10]
    have sp := same_new (o := .lst (((init ++ [last]).map mk).map V.str)) np
    refine ⟨p, (init.map mk).map V.str, .str (mk last), rfl, SqL.of ?_, by rw [List.length_map, List.length_map]; omega, fun D nD => ⟨.ref D, _, rfl, .str (mk last), _, rfl, rfl, ?_⟩⟩
    · rw [upd_same, List.map_append, List.map_append]
      rfl
    have sD := same_new (o := .lst ((init.map mk).map V.str)) nD
    have eD : (upd (upd H p (.lst (((init ++ [last]).map mk).map V.str))) D (.lst ((init.map mk).map V.str))) D = some (.lst ((init.map mk).map V.str)) := upd_same
    generalize upd (upd H p (.lst (((init ++ [last]).map mk).map V.str))) D (.lst ((init.map mk).map V.str)) = H1 at sD eD ⊢
    have s1 : Same H H1 := sp.trans sD
    refine ⟨.ref D, rfl, D, rfl, ⟨_, SqL.of eD⟩, fun L nL => lc_list (K := K) (a := D) (xs := (init.map mk).map V.str) (fun i H2 => H2 L = some (rowsV ((init.take i).map (· ++ [10]))) ∧ Same H1 H2) ⟨upd_same, same_new nL⟩ (fun i H2 _ h => SqL.of (h.2 _ _ eD)) ?_ ?_⟩
    · rintro i v H2 hv ⟨eL, s2⟩
      obtain ⟨z, rfl, hz⟩ := str_at hv
      rw [List.getElem?_map] at hz
      obtain ⟨l, hl, rfl⟩ := Option.map_eq_some_iff.mp hz
      have gl := hil l (List.mem_of_getElem? hl)
      have hi : i < init.length := (List.getElem?_eq_some_iff.mp hl).1
      refine ⟨rfl, ?_⟩
      unfold tYes
      show ite (true = true) _ _
      rw [if_pos rfl]
      refine ⟨.str (mk l), rfl, _, _, rfl, rfl, line_of (by rw [mk_len, l1]; omega), _, eL, ?_, ?_, fun b o e => ?_⟩
      · rw [List.length_map, List.length_map, List.length_map, List.length_take]
        exact Nat.lt_of_le_of_lt (show min i init.length ≤ 10001 by omega) (by decide)
      · rw [upd_same, List.take_add_one, hl, List.map_append]
        unfold rowsV
        rw [List.map_append, List.map_append]
        exact congrArg (fun v => some (HO.lst ((((init.take i).map (· ++ [10])).map mk).map V.str ++ [v]))) (congrArg V.str (ext_tl (by rw [tl_append]; rfl)))
      · rw [upd_ne (ne_of_none e nL)]
        exact s2 b o e
    rintro H2 ⟨eL, s2⟩
    rw [List.length_map, List.length_map, List.take_length] at eL
    have nL0 : H L = none := s1.free nL
    refine ⟨.str (mk last), rfl, _, ⟨line_of (show (mk last).length ≤ 1000000 by rw [mk_len]; exact Nat.le_trans (jp.2 last (List.mem_append_right _ (List.mem_singleton.mpr rfl))) (by omega)), rfl⟩, ?_⟩
    unfold keptOf ifAny at k
    cases last with
    | nil =>
      refine iteF ⟨.ref L, rfl, k _ L (s1.trans s2) nL0 ?_⟩
      show H2 L = some (rowsV (init.map (· ++ [10]) ++ []))
      rw [List.append_nil]
      exact eL
    | cons c r =>
      rw [show (((mk (c :: r)).length : Int) != 0) = true by rw [mk_len, bne_iff_ne, List.length_cons]; omega]
      refine iteT ⟨.ref L, rfl, .str (mk (c :: r)), rfl, by show 1 ≤ sizeLine; decide, fun M nM => ⟨L, M, _, _, rfl, rfl, same_new nM _ _ eL, upd_same, ?_, fun q nq => ?_⟩⟩
      · rw [List.length_map, List.length_map, List.length_map]
        exact Nat.le_trans (show init.length + 1 ≤ 10002 by omega) (by decide)
      · refine k _ q (s1.trans (s2.trans ((same_new nM).trans (same_new nq)))) ((s1.trans (s2.trans (same_new nM))).free nq) ?_
        rw [upd_same]
        unfold rowsV
        rw [List.map_append, List.map_append]
        rfl
def sp_lines_of : Sp := fun vs H Q _ => ∃ (x : Str) (init : List (List Nat)) (last : List Nat), vs = [.str x] ∧ tl x = joinL [10] (init ++ [last]) ∧ Rows10 (init ++ [last]) ∧ x.length ≤ 10000 ∧
  ∀ (H' : Hp) (p : Addr), Same H H' → H p = none → H' p = some (rowsV (rowsOf init last)) → Q (.ref p) H'
theorem ok_lines_of {f : Addr} {fd : FuncData} {dvs : List V} (F : Fn K "lines_of" s_lines_of dvs f fd) (O_kept_lines : Own P w K mg base "kept_lines" 1 ["text"] [] (sp_kept_lines)) : FnOk P w K mg base CX0 2 f fd ["text"] (sp_lines_of) := by
  refine Fn.okN F sc_lines_of (fun vs H Q E h => ?_) (fun cdv A outer s H vs Q E hr h => ?_)
  · obtain ⟨_, _, _, rfl, _⟩ := h
    rfl
  · obtain ⟨x, init, last, rfl, ex, h10, hx, k⟩ := h
    refine ⟨_, (pss_one (ps_ret (pe_lc (own := [("line", 1)]) (g := gName 1) (tt := tYes) (by rfl) sc_lines_of.nd (pi_list (pe_own O_kept_lines (hr.mono (by decide)) (by rfl) (pa_cons (pv 0) pa_nil))) (blkOk_by (own := [("line", 1)]) (N := ["text", "line"]) (sc := defScope s_lines_of) (by decide +kernel)) (fun _ _ _ _ _ => (pg_name (i := 1) sc_lines_of.nd rfl (.inl rfl))) (fun _ _ _ _ _ => pts_nil) (fun _ _ _ _ _ => (pe_m1 PySem.F.slot_str_removesuffix PySem.F.type_str_removesuffix mt_removesuffix (pv 1) pe_str))))), ?_⟩
    have lt : (tl x).length ≤ 10000 := by rw [← len_tl]; exact hx
    have jp := join_parts (init ++ [last])
    rw [← ex, List.length_append] at jp
    have kb : ∀ l ∈ keptOf init last, l.length ≤ 10001 := fun l hl => by
      rcases List.mem_append.mp hl with h | h
      · obtain ⟨l', h', rfl⟩ := List.mem_map.mp h
        have := jp.2 l' (List.mem_append_left _ h')
        rw [List.length_append]
        show _ + 1 ≤ _
        omega
      · have : l = last := by
          unfold ifAny at h
          split at h
          · cases h
          · exact List.mem_singleton.mp h
        have := jp.2 last (List.mem_append_right _ (List.mem_singleton.mpr rfl))
        rw [‹l = last›]
        omega
    have kn : (keptOf init last).length ≤ 10002 := by
      unfold keptOf ifAny
      rw [List.length_append, List.length_map]
      split
      · show _ + 0 ≤ _
        omega
      · show _ + 1 ≤ _
        omega
    have kr : (keptOf init last).map noNl = rowsOf init last := by
      unfold keptOf rowsOf
      rw [List.map_append, List.map_map]
      congr 1
      · refine (List.map_congr_left fun l hl => ?_).trans (List.map_id _)
        exact noNl_fed l
      · unfold ifAny
        split
        · rfl
        · show [noNl last] = [last]
          rw [noNl_free (h10 last (List.mem_append_right _ (List.mem_singleton.mpr rfl)))]
    refine ⟨.str x, rfl, x, init, last, rfl, ex, h10, hx, fun H1 p s1 np ep => ⟨p, rfl, ⟨_, SqL.of ep⟩, fun L nL => ?_⟩⟩
    rw [← kr] at k
    generalize keptOf init last = ks at ep kb kn k
    refine lc_list (K := K) (a := p) (xs := (ks.map mk).map V.str) (fun i H2 => H2 L = some (rowsV ((ks.take i).map noNl)) ∧ Same H1 H2) ⟨upd_same, same_new nL⟩ (fun i H2 _ h => SqL.of (h.2 _ _ ep)) ?_ ?_
    · rintro i v H2 hv ⟨eL, s2⟩
      obtain ⟨z, rfl, hz⟩ := str_at hv
      rw [List.getElem?_map] at hz
      obtain ⟨l, hl, rfl⟩ := Option.map_eq_some_iff.mp hz
      have gl := kb l (List.mem_of_getElem? hl)
      have hi : i < ks.length := (List.getElem?_eq_some_iff.mp hl).1
      refine ⟨rfl, ?_⟩
      unfold tYes
      show ite (true = true) _ _
      rw [if_pos rfl]
      refine ⟨.str (mk l), rfl, ⟨_, rfl⟩, mk l, "\n", rfl, rfl, by rw [mk_len]; exact line_of (by omega), _, eL, ?_, ?_, fun b o e => ?_⟩
      · rw [List.length_map, List.length_map, List.length_map, List.length_take]
        exact Nat.lt_of_le_of_lt (show min i ks.length ≤ 10002 by omega) (by decide)
      · rw [upd_same, List.take_add_one, hl, List.map_append]
        unfold rowsV
        rw [List.map_append, List.map_append]
        rfl
      · rw [upd_ne (ne_of_none e nL)]
        exact s2 b o e
    rintro H2 ⟨eL, s2⟩
    rw [List.length_map, List.length_map, List.take_length] at eL
    exact k _ L (s1.trans s2) (s1.free nL) eL
/-- a text with a line feed behind it -/
def fedS (x : Str) : Str := if Txt.endswith x "\n" = true then x else x ++ "\n"
theorem fedS_of {x : Str} (h : Txt.endswith x "\n" = true) : fedS x = x := if_pos h
def wantS (x : Str) : Str := if ((x.length : Int) != 0) = true then fedS x else x
theorem wantS_of {x : Str} (h : x = "" ∨ Txt.endswith x "\n" = true) : wantS x = x := by
  unfold wantS
  split
  · rename_i hx
    rcases h with e | e
    · rw [e] at hx
      exact absurd hx (by decide +kernel)
    · exact fedS_of e
  · rfl
def errS : V → V
  | .str x => .str (fedS x)
  | v => v
theorem errS_of {er : V} (h : er = .non ∨ ∃ e : Str, er = .str e ∧ Txt.endswith e "\n" = true) : errS er = er := by
  rcases h with rfl | ⟨e, rfl, h⟩
  · rfl
  · exact congrArg V.str (fedS_of h)
def sp_fed : Sp := fun vs H Q _ => ∃ x : Str, vs = [.str x] ∧ x.length ≤ 100000 ∧ Q (.str (fedS x)) H
theorem ok_fed {f : Addr} {fd : FuncData} {dvs : List V} (F : Fn K "fed" s_fed dvs f fd) : FnOk P w K mg base CX0 1 f fd ["text"] (sp_fed) := by
  refine Fn.okN F sc_fed (fun vs H Q E h => ?_) (fun cdv A outer s H vs Q E hr h => ?_)
  · obtain ⟨_, rfl, _⟩ := h
    rfl
  · obtain ⟨x, rfl, hx, k⟩ := h
    refine ⟨_, (pss_one (ps_ret (pe_ifExp (pt_val (pe_m1 PySem.F.slot_str_endswith PySem.F.type_str_endswith mt_endswith (pv 0) pe_str)) (pv 0) (pe_op op_add_str (pv 0) pe_str)))), ?_⟩
    have l1 : ("\n" : Str).length = 1 := rfl
    refine ⟨_, rfl, ⟨_, rfl⟩, x, "\n", rfl, rfl, _, rfl, ?_⟩
    unfold fedS at k
    cases h : Txt.endswith x "\n" with
    | true =>
      rw [h, if_pos rfl] at k
      exact iteT ⟨_, rfl, k⟩
    | false =>
      rw [h, if_neg Bool.false_ne_true] at k
      exact iteF ⟨.str x, rfl, x, "\n", rfl, rfl, by rw [l1]; exact line_of (by omega), k⟩
def sp_words_of : Sp := fun vs H Q _ => ∃ x : Str, vs = [.str x] ∧ 9 ∉ tl x ∧ 10 ∉ tl x ∧ x.length ≤ 100000 ∧ ∀ (H' : Hp) (p : Addr), Same H H' → H p = none → H' p = some (.lst ((wordsS x).map V.str)) → Q (.ref p) H'
theorem ok_words_of {f : Addr} {fd : FuncData} {dvs : List V} (F : Fn K "words_of" s_words_of dvs f fd) : FnOk P w K mg base CX0 1 f fd ["text"] (sp_words_of) := by
  refine Fn.okN F sc_words_of (fun vs H Q E h => ?_) (fun cdv A outer s H vs Q E hr h => ?_)
  · obtain ⟨_, rfl, _⟩ := h
    rfl
  · obtain ⟨x, rfl, h9, h10, hx, k⟩ := h
    refine ⟨_, (pss_cons (ps_set (i := 1) sc_words_of.nd rfl (.inl rfl) (pe_replN (pe_replN (pv 0))))
      (pss_one (ps_ret (pe_lc (own := [("word", 2)]) (g := gName 2) (by rfl) sc_words_of.nd (pi_list (pe_m1 PySem.F.slot_str_split PySem.F.type_str_split mt_split (pv 1) pe_str)) (blkOk_by (own := [("word", 2)]) (N := ["text", "spaced", "word"]) (sc := defScope s_words_of) (by decide +kernel)) (fun _ _ _ _ _ => (pg_name (i := 2) sc_words_of.nd rfl (.inl rfl))) (fun _ _ _ _ _ => (pts_one (pt_tr (K' := K) (pv 2)))) (fun _ _ _ _ _ => (pv 2)))))), ?_⟩
    have o1 : (Builtin.Str.occurrences x "\t" 0 x.length (x.length + 1)).isEmpty = true := by
      rw [tab_eq]
      exact occ_absent h9
    have o2 : (Builtin.Str.occurrences x "\n" 0 x.length (x.length + 1)).isEmpty = true := by
      rw [nl_eq]
      exact occ_absent h10
    have sz := split_sizes x (y := [32]) (by simp) (by decide)
    refine ⟨_, rfl, x, rfl, o1, x, rfl, o2, .str x, rfl, ⟨_, rfl⟩, x, " ", rfl, rfl, by decide +kernel, line_of (by omega), fun p np => ⟨p, rfl, ⟨_, SqL.of upd_same⟩, fun L nL => ?_⟩⟩
    unfold wordsS at k
    rw [sp_eq] at nL k ⊢
    have s1 := same_new (o := .lst ((Txt.split x ⟨[32].toArray⟩).map V.str)) np
    have e1 : (upd H p (.lst ((Txt.split x ⟨[32].toArray⟩).map V.str))) p = some (.lst ((Txt.split x ⟨[32].toArray⟩).map V.str)) := upd_same
    have nL0 : H L = none := s1.free nL
    generalize upd H p (.lst ((Txt.split x ⟨[32].toArray⟩).map V.str)) = H1 at nL s1 e1 ⊢
    refine lc_list (K := K) (a := p) (xs := (Txt.split x ⟨[32].toArray⟩).map V.str) (fun i H2 => H2 L = some (.lst ((((Txt.split x ⟨[32].toArray⟩).take i).filter full).map V.str)) ∧ Same H1 H2)
      ⟨upd_same, same_new nL⟩ (fun i H2 _ h2 => SqL.of (h2.2 _ _ e1)) ?_ ?_
    · rintro i v H2 hv ⟨eL, s2⟩
      obtain ⟨z, rfl, hz⟩ := str_at hv
      have hil : i < (Txt.split x ⟨[32].toArray⟩).length := (List.getElem?_eq_some_iff.mp hz).1
      have zl := split_mem x (y := [32]) (by simp) (by decide) (List.mem_of_getElem? hz)
      refine ⟨rfl, .str z, rfl, _, ⟨line_of (by omega), rfl⟩, ?_⟩
      rw [full_len]
      have et := take_filter full hz
      cases hf : full z with
      | true =>
        rw [hf] at et
        have fl : (((Txt.split x ⟨[32].toArray⟩).take i).filter full).length ≤ i := Nat.le_trans (List.length_filter_le _ _) (List.length_take_le _ _)
        refine iteT ⟨.str z, rfl, _, eL, by rw [List.length_map]; exact Nat.lt_of_le_of_lt (show _ ≤ 200000 by omega) (by decide), ?_, fun b o e => ?_⟩
        · rw [upd_same, et, List.map_append]
          rfl
        · rw [upd_ne (ne_of_none e nL)]
          exact s2 b o e
      | false =>
        rw [hf] at et
        refine iteF ⟨?_, s2⟩
        rw [et]
        show H2 L = some (.lst (((((Txt.split x ⟨[32].toArray⟩).take i).filter full) ++ []).map V.str))
        rw [List.append_nil]
        exact eL
    · rintro H2 ⟨eL, s2⟩
      rw [List.length_map, List.take_length] at eL
      exact k _ L (s1.trans s2) nL0 eL
def sp_begins : Sp := fun vs H Q _ => ∃ x y : Str, vs = [.str x, .str y] ∧ x.length ≤ 10000 ∧ Q (.bl (bg x y)) H
def Short (ws : List (List Nat)) : Prop := ws.length ≤ 10000 ∧ ∀ l ∈ ws, l.length ≤ 10000
/-- where a row of lines ends that all have p, from i on -/
def runL (p : List Nat → Bool) (ws : List (List Nat)) (i : Nat) : Nat := i + ((ws.drop i).takeWhile p).length
theorem runL_ge (p : List Nat → Bool) (ws : List (List Nat)) (i : Nat) : i ≤ runL p ws i := Nat.le_add_right _ _
theorem runL_le {p : List Nat → Bool} {ws : List (List Nat)} {i : Nat} (h : i ≤ ws.length) : runL p ws i ≤ ws.length := by
  have := (List.takeWhile_sublist (l := ws.drop i) p).length_le
  rw [List.length_drop] at this
  unfold runL
  omega
theorem runL_end {p : List Nat → Bool} {ws : List (List Nat)} {i : Nat} (h : ws.length ≤ i) : runL p ws i = i := by
  unfold runL
  rw [List.drop_eq_nil_of_le h]
  rfl
theorem runL_stop {p : List Nat → Bool} {ws : List (List Nat)} {i : Nat} (h : i < ws.length) (hp : p ws[i] = false) : runL p ws i = i := by
  unfold runL
  rw [List.drop_eq_getElem_cons h, List.takeWhile_cons, hp]
  rfl
theorem runL_step {p : List Nat → Bool} {ws : List (List Nat)} {i : Nat} (h : i < ws.length) (hp : p ws[i] = true) : runL p ws i = runL p ws (i + 1) := by
  unfold runL
  rw [List.drop_eq_getElem_cons h, List.takeWhile_cons, hp, if_pos rfl, List.length_cons]
  omega
def pS (l : List Nat) : Bool := bg (mk l) "..."
def pE (l : List Nat) : Bool := !isBlank l && !bg (mk l) ">>>"
def sp_behind_source : Sp := fun vs H Q _ => ∃ (p : Addr) (ws : List (List Nat)) (i : Nat), vs = [.ref p, .int (i : Int)] ∧ H p = some (rowsV ws) ∧ Short ws ∧ Q (.int (runL pS ws i : Nat)) H
def sp_behind_expected : Sp := fun vs H Q _ => ∃ (p : Addr) (ws : List (List Nat)) (i : Nat), vs = [.ref p, .int (i : Int)] ∧ H p = some (rowsV ws) ∧ Short ws ∧ Q (.int (runL pE ws i : Nat)) H
/-- the cuts of lines, from a place on -/
def cutsL (ws : List (List Nat)) (i : Nat) : List (Nat × Nat × Nat) :=
  if h : i < ws.length then
    if bg (mk ws[i]) ">>>" = true then (i, runL pS ws (i + 1), runL pE ws (runL pS ws (i + 1))) :: cutsL ws (runL pE ws (runL pS ws (i + 1)))
    else cutsL ws (i + 1)
  else []
termination_by ws.length - i
decreasing_by
  · have h1 := runL_ge pS ws (i + 1)
    have h2 := runL_ge pE ws (runL pS ws (i + 1))
    omega
  · omega
theorem cutsL_len (ws : List (List Nat)) : ∀ (f i : Nat), ws.length - i ≤ f → (cutsL ws i).length ≤ ws.length - i
  | 0, i, h => by
    rw [cutsL, dif_neg (by omega)]
    exact Nat.zero_le _
  | f + 1, i, h => by
    rw [cutsL]
    split
    · split
      · have h1 := runL_ge pS ws (i + 1)
        have h2 := runL_ge pE ws (runL pS ws (i + 1))
        have ih := cutsL_len ws f (runL pE ws (runL pS ws (i + 1))) (by omega)
        rw [List.length_cons]
        omega
      · have ih := cutsL_len ws f (i + 1) (by omega)
        omega
    · exact Nat.zero_le _
def cutV3 (c : Nat × Nat × Nat) : HO := .tup [.int (c.1 : Int), .int (c.2.1 : Int), .int (c.2.2 : Int)]
/-- triples that stand at addresses -/
def CutsAt (H : Hp) : List Addr → List (Nat × Nat × Nat) → Prop
  | [], [] => True
  | t :: ts, c :: cs => H t = some (cutV3 c) ∧ CutsAt H ts cs
  | _, _ => False
theorem CutsAt.same {H H' : Hp} (s : Same H H') : ∀ {ts : List Addr} {cs : List (Nat × Nat × Nat)}, CutsAt H ts cs → CutsAt H' ts cs
  | [], [], _ => trivial
  | _ :: _, _ :: _, h => ⟨s _ _ h.1, CutsAt.same s h.2⟩
  | [], _ :: _, h => h
  | _ :: _, [], h => h
theorem CutsAt.upd {H : Hp} {C : Addr} {xs : List V} {o : HO} (e : H C = some (.lst xs)) : ∀ {ts : List Addr} {cs : List (Nat × Nat × Nat)}, CutsAt H ts cs → CutsAt (L2.upd H C o) ts cs
  | [], [], _ => trivial
  | t :: _, _ :: _, h => ⟨by
    have h1 : H t = some (cutV3 _) := h.1
    rw [upd_ne (fun z => by rw [z, e] at h1; cases h1)]
    exact h.1, CutsAt.upd e h.2⟩
  | [], _ :: _, h => h
  | _ :: _, [], h => h
theorem CutsAt.snoc {H : Hp} {t : Addr} {c : Nat × Nat × Nat} (e : H t = some (cutV3 c)) : ∀ {ts : List Addr} {cs : List (Nat × Nat × Nat)}, CutsAt H ts cs → CutsAt H (ts ++ [t]) (cs ++ [c])
  | [], [], _ => ⟨e, trivial⟩
  | _ :: _, _ :: _, h => ⟨h.1, CutsAt.snoc e h.2⟩
  | [], _ :: _, h => h.elim
  | _ :: _, [], h => h.elim
theorem CutsAt.get {H : Hp} : ∀ {ts : List Addr} {cs : List (Nat × Nat × Nat)} {i : Nat} {t : Addr}, CutsAt H ts cs → ts[i]? = some t → ∃ c, cs[i]? = some c ∧ H t = some (cutV3 c)
  | [], _, i, t, _, h => by cases h
  | _ :: _, [], _, _, h, _ => h.elim
  | a :: ts, c :: cs, 0, t, h, e => by
    cases e
    exact ⟨c, rfl, h.1⟩
  | a :: ts, c :: cs, i + 1, t, h, e => by
    obtain ⟨d, h1, h2⟩ := CutsAt.get (i := i) h.2 e
    exact ⟨d, h1, h2⟩
theorem CutsAt.len {H : Hp} : ∀ {ts : List Addr} {cs : List (Nat × Nat × Nat)}, CutsAt H ts cs → ts.length = cs.length
  | [], [], _ => rfl
  | _ :: _, _ :: _, h => congrArg Nat.succ (CutsAt.len h.2)
  | [], _ :: _, h => h.elim
  | _ :: _, [], h => h.elim
def sp_cuts_of : Sp := fun vs H Q _ => ∃ (p : Addr) (ws : List (List Nat)), vs = [.ref p] ∧ H p = some (rowsV ws) ∧ Short ws ∧
  ∀ (H' : Hp) (q : Addr) (ts : List Addr), Same H H' → H q = none → H' q = some (.lst (ts.map V.ref)) → CutsAt H' ts (cutsL ws 0) → Q (.ref q) H'
def sp_refuse_wrong_indents : Sp := fun vs H Q _ => ∃ (p : Addr) (ws : List (List Nat)) (a b : Nat) (y : Str), vs = [.ref p, .int (a : Int), .int (b : Int), .str y] ∧ H p = some (rowsV ws) ∧ a ≤ 100000 ∧ b ≤ ws.length ∧ Short ws ∧ (∀ j l, a ≤ j → j < b → ws[j]? = some l → Txt.startswith (mk l) y = true) ∧ Q .non H
theorem mulOk_sp {n : Nat} (h : n ≤ 10000) : MulOk " " (n : Int) := by
  have l1 : (" " : Str).length = 1 := rfl
  refine ⟨?_, fun h1 _ => ?_, fun h1 _ => ?_⟩
  · rw [decide_eq_false (by omega), decide_eq_false (by omega)]
    rfl
  · rw [l1]
    have h2 : (0 : Int) < (n : Int) := by omega
    have h3 : ((1 : Nat) : Int) ≤ (2 ^ 63 - 1) / (n : Int) := (Int.le_ediv_iff_mul_le h2).mpr (by omega)
    omega
  · rw [l1]
    unfold Builtin.Str.tooLong
    have hz : (10000 : Nat) < sizeLine := by decide
    rw [decide_eq_false (by omega)]
theorem mul_len (n : Nat) : (Txt.mul " " (n : Int)).length ≤ n + 1 := by
  have e := PyProof.Rows.len_mul " " (n : Int)
  have l1 : ((" " : Str).length : Int) = 1 := rfl
  rw [decide_eq_false (by omega), if_neg Bool.false_ne_true, l1] at e
  omega
/-- a cut at which no line is wrong -/
structure RightCut (ws : List (List Nat)) (a m e : Nat) : Prop where
  am : a < m
  me : m ≤ e
  ew : e ≤ ws.length
  bl : ∀ j l, a ≤ j → j < m → ws[j]? = some l → inV (.str (cutS (mk l) (some ((lead (ws[a]'(by omega)) : Int) + (3 : Int))) (some ((lead (ws[a]'(by omega)) : Int) + (3 : Int) + 1)))) [.str "", .str " "] = true
  src : ∀ j l, a + 1 ≤ j → j < m → ws[j]? = some l → Txt.startswith (mk l) (Txt.mul " " (lead (ws[a]'(by omega)) : Int) ++ ".") = true
  wnt : ∀ j l, m ≤ j → j < e → ws[j]? = some l → Txt.startswith (mk l) (Txt.mul " " (lead (ws[a]'(by omega)) : Int)) = true
def sp_refuse_wrong_lines : Sp := fun vs H Q _ => ∃ (p t : Addr) (ws : List (List Nat)) (a m e : Nat), vs = [.ref p, .ref t] ∧ H p = some (rowsV ws) ∧ H t = some (cutV3 (a, m, e)) ∧ Short ws ∧ RightCut ws a m e ∧ ∀ H', Same H H' → Q .non H'
theorem rows_bound {x : Str} {init : List (List Nat)} {last : List Nat} (ex : tl x = joinL [10] (init ++ [last])) (hx : x.length ≤ 10000) : (∀ l ∈ rowsOf init last, l.length ≤ 10000) ∧ (rowsOf init last).length ≤ 10002 ∧ ((rowsOf init last).map (·.length)).sum + (rowsOf init last).length ≤ 10001 := by
  have jl := joinL_len [10] (ps := init ++ [last]) (by simp)
  have e1 : ([10] : List Nat).length = 1 := rfl
  rw [e1, List.map_append, List.sum_append, List.length_append, ← ex] at jl
  have c1 : ([last].map (·.length)).sum = last.length := by
    show last.length + 0 = _
    omega
  rw [c1] at jl
  have lt : (tl x).length ≤ 10000 := by rw [← len_tl]; exact hx
  have jp := join_parts (init ++ [last])
  rw [← ex, List.length_append] at jp
  have l1 : [last].length = 1 := rfl
  rw [l1] at jl
  unfold rowsOf ifAny
  refine ⟨fun l hl => ?_, ?_, ?_⟩
  · rcases List.mem_append.mp hl with h | h
    · exact Nat.le_trans (jp.2 l (List.mem_append_left _ h)) lt
    · split at h
      · cases h
      · rw [List.mem_singleton.mp h]
        exact Nat.le_trans (jp.2 last (List.mem_append_right _ (List.mem_singleton.mpr rfl))) lt
  · rw [List.length_append]
    split
    · show _ + 0 ≤ _
      omega
    · omega
  · rw [List.map_append, List.sum_append, List.length_append]
    split
    · show _ + 0 + (_ + 0) ≤ _
      omega
    · rw [c1, l1]
      omega
/-- a line that is blank or a remark -/
def remL (l : List Nat) : Bool := isBlank l || Txt.startswith (Txt.lstripChars (mk l) " \t") "#"
def sp_is_remark : Sp := fun vs H Q _ => ∃ (x : Str) (init : List (List Nat)) (last : List Nat), vs = [.str x] ∧ tl x = joinL [10] (init ++ [last]) ∧ Rows10 (init ++ [last]) ∧ x.length ≤ 10000 ∧ ∀ H', Same H H' → Q (.bl (((rowsOf init last).map remL).all id)) H'
def lastQ (x : Str) : Int := if Txt.rfind x "\"" > Txt.rfind x "'" then Txt.rfind x "\"" else Txt.rfind x "'"
def markAt (x : Str) (i : Int) : Bool := Txt.startswith (Txt.lstripChars (cutS x (some (i + 1)) none) " \t") "doctest:"
def dirFrom (x : Str) : Nat → Int → Int
  | 0, i => i
  | f + 1, i => if i < 0 then i else if markAt x i = true then i else dirFrom x f (Txt.find3 x "#" (i + 1))
def dirPos (x : Str) : Int := dirFrom x (x.length + 1) (Txt.find3 x "#" (lastQ x + 1))
def dirS (x : Str) : Str := if dirPos x < 0 then "" else cutS x (some (dirPos x)) none
theorem find3_at (x : Str) (i : Int) (h : 0 ≤ i) : Txt.find3 x "#" i = -1 ∨ (i ≤ Txt.find3 x "#" i ∧ Txt.find3 x "#" i < (x.length : Int)) := by
  have e : ("#" : Str) = ⟨#[35]⟩ := ext_tl (by decide +kernel)
  unfold Txt.find3
  rcases StrLaws.occ_head_from x "#" (fromIndex x.length i) 1 (Nat.le_refl _) with ⟨h0, _⟩ | ⟨j, r, h0, h1, hj, _⟩
  · rw [h0]
    exact .inl rfl
  · rw [h0]
    rw [e] at hj
    have hl := (List.getElem?_eq_some_iff.mp (show (tl x)[j]? = some 35 from (StrLaws.subAt_one x 35 j).mp hj)).1
    rw [← len_tl] at hl
    refine .inr ?_
    show i ≤ (j : Int) ∧ (j : Int) < (x.length : Int)
    unfold fromIndex at h1
    rw [if_neg (by omega : ¬ i < 0)] at h1
    omega
theorem rfind_ge (x y : Str) : -1 ≤ Txt.rfind x y := by
  unfold Txt.rfind
  split <;> omega
def sp_directive_of : Sp := fun vs H Q _ => ∃ x : Str, vs = [.str x] ∧ x.length ≤ 10000 ∧ Q (.str (dirS x)) H
theorem ok_directive_of {f : Addr} {fd : FuncData} {dvs : List V} (F : Fn K "directive_of" s_directive_of dvs f fd) (m_max : mg "max" = none) {t_BLANKS : Tok} (c_BLANKS : mg "BLANKS" = some (.str " \t" t_BLANKS)) {t_MARK_directives : Tok} (c_MARK_directives : mg "MARK_directives" = some (.str "doctest:" t_MARK_directives)) : FnOk P w K mg base CX0 1 f fd ["line"] (sp_directive_of) := by
  refine Fn.okN F sc_directive_of (fun vs H Q E h => ?_) (fun cdv A outer s H vs Q E hr h => ?_)
  · obtain ⟨_, rfl, _⟩ := h
    rfl
  · obtain ⟨x, rfl, hx, k⟩ := h
    refine ⟨_, (pss_cons (ps_set (i := 1) sc_directive_of.nd rfl (.inl rfl) (pe_bm PySem.F.plainAttrs_str PySem.F.slot_str_find PySem.F.type_str_find mt_find3 (pv 0) (pa_cons pe_str (pa_cons (pe_op op_add (pe_callB (call_max2 rfl) (by rfl) m_max (by decide +kernel) (pa_cons (pe_m1 PySem.F.slot_str_rfind PySem.F.type_str_rfind mt_rfind (pv 0) pe_str) (pa_cons (pe_m1 PySem.F.slot_str_rfind PySem.F.type_str_rfind mt_rfind (pv 0) pe_str) pa_nil))) pe_int) pa_nil))))
      (pss_cons (ps_while PassesOwn.never (PW.pt (pw_and (pt_cmpR op_ge (pv 1) pe_int (nomark _)) (pw_and1 (pt_not (pt_val (pe_m1 PySem.F.slot_str_startswith PySem.F.type_str_startswith mt_startswith (pe_m1 PySem.F.slot_str_lstrip PySem.F.type_str_lstrip mt_lstripChars (pe_slice sl_str (pv 0) (po_some (pe_op op_add (pv 1) pe_int)) po_none) (pe_glob (v := .str " \t") rfl c_BLANKS ⟨_, rfl⟩)) (pe_glob (v := .str "doctest:") rfl c_MARK_directives ⟨_, rfl⟩)))))))
          (pss_one (ps_set (i := 1) sc_directive_of.nd rfl (.inl rfl) (pe_bm PySem.F.plainAttrs_str PySem.F.slot_str_find PySem.F.type_str_find mt_find3 (pv 0) (pa_cons pe_str (pa_cons (pe_op op_add (pv 1) pe_int) pa_nil))))))
      (pss_one (ps_ret (pe_ifExp (pt_cmpR op_lt (pv 1) pe_int (nomark _)) pe_str (pe_slice sl_str (pv 0) (po_some (pv 1)) po_none)))))), ?_⟩
    have zx : x.length ≤ sizeLine := line_of (by omega)
    refine ⟨.str x, rfl, rfl, .str x, rfl, ⟨_, rfl⟩, x, "'", rfl, rfl, .str x, rfl, ⟨_, rfl⟩, x, "\"", rfl, rfl, _, _, rfl, _, _, rfl, rfl, x, "#", _, rfl, rfl, ?_⟩
    refine while_by (fun σ H1 => ∃ (f : Nat) (i : Int), σ = [some (.str x), some (.int i)] ∧ H = H1 ∧ dirFrom x f i = dirPos x ∧ (i < 0 ∨ ((x.length : Int) - i < f ∧ i < x.length))) (fun σ _ => match σ with | [_, some (.int z)] => if z < 0 then 0 else (x.length - z).toNat + 1 | _ => 0) ⟨x.length + 1, _, rfl, rfl, rfl, ?_⟩ ?_ (mo_and (mo_test (mo_op mo_I0 mo_var mo_const)) (mo_not (mo_B (mo_m1 (fun x xs H Q Q' i ⟨a, b, e1, e2, q⟩ => ⟨a, b, e1, e2, i _ _ q⟩) (mo_m1 (fun x xs H Q Q' i ⟨a, b, e1, e2, e3, q⟩ => ⟨a, b, e1, e2, e3, i _ _ q⟩) ?_ mo_const) mo_const))))
    · have lq : 0 ≤ lastQ x + 1 := by
        have r1 := rfind_ge x "\""
        have r2 := rfind_ge x "'"
        unfold lastQ
        split <;> omega
      rcases find3_at x (lastQ x + 1) lq with h | h
      · exact .inl (by show Txt.find3 x "#" (lastQ x + 1) < 0; omega)
      · refine .inr ?_
        show (x.length : Int) - Txt.find3 x "#" (lastQ x + 1) < ((x.length + 1 : Nat) : Int) ∧ Txt.find3 x "#" (lastQ x + 1) < (x.length : Int)
        omega
    · rintro σ H1 ⟨f, i, rfl, rfl, hf, hi⟩
      refine ⟨.int i, rfl, _, _, rfl, rfl, _, rfl, ?_⟩
      rcases Int.lt_or_le i 0 with h | h
      · rw [decide_eq_false (by omega)]
        refine iteF (iteF ⟨.int i, rfl, _, _, rfl, rfl, _, rfl, ?_⟩)
        rw [decide_eq_true h]
        have e1 : dirFrom x f i = i := by
          cases f with
          | zero => rfl
          | succ f => rw [dirFrom, if_pos h]
        unfold dirS at k
        rw [← hf, e1, if_pos h] at k
        exact iteT k
      · rw [decide_eq_true h]
        have hi2 := hi.resolve_left (by omega)
        cases f with
        | zero => exact absurd hi2.1 (by omega)
        | succ f =>
          rw [dirFrom, if_neg (by omega)] at hf
          refine iteT ⟨.str x, rfl, .int i, rfl, _, _, rfl, rfl, _, rfl, x, rfl, zx, ⟨_, rfl⟩, _, " \t", rfl, rfl, Nat.le_trans (cutS_length _ _ _) zx, ⟨_, rfl⟩, _, "doctest:", rfl, rfl, _, rfl, ?_⟩
          show ite ((!markAt x i) = true) _ _
          cases hm : markAt x i with
          | true =>
            rw [hm, if_pos rfl] at hf
            refine iteF ⟨.int i, rfl, _, _, rfl, rfl, _, rfl, ?_⟩
            rw [decide_eq_false (by omega)]
            unfold dirS at k
            rw [← hf, if_neg (by omega)] at k
            exact iteF ⟨.str x, rfl, .int i, rfl, _, rfl, x, rfl, zx, k⟩
          | false =>
            rw [hm, if_neg Bool.false_ne_true] at hf
            have fa := find3_at x (i + 1) (by omega)
            refine iteT ⟨.str x, rfl, rfl, .int i, rfl, _, _, rfl, rfl, x, "#", _, rfl, rfl, ⟨f, _, rfl, rfl, hf, by omega⟩, ?_⟩
            show (if Txt.find3 x "#" (i + 1) < 0 then 0 else ((x.length : Int) - Txt.find3 x "#" (i + 1)).toNat + 1) < (if i < 0 then 0 else ((x.length : Int) - i).toNat + 1)
            rw [if_neg (show ¬ i < 0 by omega)]
            split <;> omega
    · rintro σ H Q Q' i ⟨v1, e1, v2, e2, a, b, e3, e4, j, e5, z, e6, e7, q⟩
      exact ⟨v1, e1, v2, e2, a, b, e3, e4, j, e5, z, e6, e7, i _ _ q⟩
def sp_bare_line : Sp := fun vs H Q _ => ∃ x : Str, vs = [.str x] ∧ x.length ≤ 10000 ∧ Q (.str (Txt.rstripChars (Txt.removesuffix x (dirS x)) " \t")) H
theorem ok_bare_line {f : Addr} {fd : FuncData} {dvs : List V} (F : Fn K "bare_line" s_bare_line dvs f fd) (O_directive_of : Own P w K mg base "directive_of" 1 ["line"] [] (sp_directive_of)) {t_BLANKS : Tok} (c_BLANKS : mg "BLANKS" = some (.str " \t" t_BLANKS)) : FnOk P w K mg base CX0 2 f fd ["line"] (sp_bare_line) := by
  refine Fn.okN F sc_bare_line (fun vs H Q E h => ?_) (fun cdv A outer s H vs Q E hr h => ?_)
  · obtain ⟨_, rfl, _⟩ := h
    rfl
  · obtain ⟨x, rfl, hx, k⟩ := h
    refine ⟨_, (pss_one (ps_ret (pe_m1 PySem.F.slot_str_rstrip PySem.F.type_str_rstrip mt_rstripChars (pe_m1 PySem.F.slot_str_removesuffix PySem.F.type_str_removesuffix mt_removesuffix (pv 0) (pe_own O_directive_of (hr.mono (by decide)) (by rfl) (pa_cons (pv 0) pa_nil))) (pe_glob (v := .str " \t") rfl c_BLANKS ⟨_, rfl⟩)))), ?_⟩
    have zx : x.length ≤ sizeLine := line_of (by omega)
    exact ⟨.str x, rfl, ⟨_, rfl⟩, .str x, rfl, x, rfl, hx, x, dirS x, rfl, rfl, zx, ⟨_, rfl⟩, _, " \t", rfl, rfl, Nat.le_trans (rsuf_len _ _) zx, k⟩
/-- a source line without its directive, and without blanks at its end -/
def bareS (l : List Nat) : List Nat := tl (Txt.rstripChars (Txt.removesuffix (mk l) (dirS (mk l))) " \t")
theorem bareS_len (l : List Nat) : (bareS l).length ≤ l.length := by
  have a := rsuf_len (mk l) (dirS (mk l))
  have b : (Txt.rstripChars (Txt.removesuffix (mk l) (dirS (mk l))) " \t").length ≤ (Txt.removesuffix (mk l) (dirS (mk l))).length := len_stripBy _ _ _ _
  rw [mk_len] at a
  unfold bareS
  rw [← len_tl]
  omega
def sp_bare_of : Sp := fun vs H Q _ => ∃ (x : Str) (init : List (List Nat)) (last : List Nat), vs = [.str x] ∧ tl x = joinL [10] (init ++ [last]) ∧ Rows10 (init ++ [last]) ∧ x.length ≤ 10000 ∧ ∀ H', Same H H' → Q (.str (mk (joinL [] ((rowsOf init last).map fun l => bareS l ++ [10])))) H'
theorem ok_bare_of {f : Addr} {fd : FuncData} {dvs : List V} (F : Fn K "bare_of" s_bare_of dvs f fd) (O_lines_of : Own P w K mg base "lines_of" 2 ["text"] [] (sp_lines_of)) (O_bare_line : Own P w K mg base "bare_line" 2 ["line"] [] (sp_bare_line)) : FnOk P w K mg base CX0 3 f fd ["source"] (sp_bare_of) := by
  refine Fn.okN F sc_bare_of (fun vs H Q E h => ?_) (fun cdv A outer s H vs Q E hr h => ?_)
  · obtain ⟨_, _, _, rfl, _⟩ := h
    rfl
  · obtain ⟨x, init, last, rfl, ex, h10, hx, k⟩ := h
    refine ⟨_, (pss_one (ps_ret (pe_m1 PySem.F.slot_str_join PySem.F.type_str_join mt_join pe_str (pe_lc (own := [("line", 1)]) (g := gName 1) (tt := tYes) (by rfl) sc_bare_of.nd (pi_list (pe_own O_lines_of (hr.mono (by decide)) (by rfl) (pa_cons (pv 0) pa_nil))) (blkOk_by (own := [("line", 1)]) (N := ["source", "line"]) (sc := defScope s_bare_of) (by decide +kernel)) (fun _ _ _ _ _ => (pg_name (i := 1) sc_bare_of.nd rfl (.inl rfl))) (fun _ _ _ _ _ => pts_nil) (fun _ _ _ _ _ => (pe_op op_add_str (pe_own O_bare_line (hr.mono (by decide)) (by rfl) (pa_cons (pv 1) pa_nil)) pe_str)))))), ?_⟩
    obtain ⟨rb, rn, rs⟩ := rows_bound ex hx
    refine ⟨⟨_, rfl⟩, .str x, rfl, x, init, last, rfl, ex, h10, hx, fun H1 p s1 np ep => ⟨p, rfl, ⟨_, SqL.of ep⟩, fun L nL => ?_⟩⟩
    generalize rowsOf init last = ls at rb rn rs ep k
    refine lc_list (K := K) (a := p) (xs := (ls.map mk).map V.str) (fun i H2 => H2 L = some (rowsV ((ls.take i).map fun l => bareS l ++ [10])) ∧ Same H1 H2) ⟨upd_same, same_new nL⟩ (fun i H2 _ h => SqL.of (h.2 _ _ ep)) ?_ ?_
    · rintro i v H2 hv ⟨eL, s2⟩
      obtain ⟨z, rfl, hz⟩ := str_at hv
      rw [List.getElem?_map] at hz
      obtain ⟨l, hl, rfl⟩ := Option.map_eq_some_iff.mp hz
      have gl := rb l (List.mem_of_getElem? hl)
      have hi : i < ls.length := (List.getElem?_eq_some_iff.mp hl).1
      have bl := bareS_len l
      have l1 : ("\n" : Str).length = 1 := rfl
      refine ⟨rfl, ?_⟩
      unfold tYes
      show ite (true = true) _ _
      rw [if_pos rfl]
      refine ⟨.str (mk l), rfl, mk l, rfl, by rw [mk_len]; omega, _, _, rfl, rfl, ?_, _, eL, ?_, ?_, fun b o e => ?_⟩
      · rw [l1, len_tl]
        exact line_of (show (bareS l).length + 1 ≤ _ by omega)
      · rw [List.length_map, List.length_map, List.length_map, List.length_take]
        exact Nat.lt_of_le_of_lt (show min i ls.length ≤ 10002 by omega) (by decide)
      · rw [upd_same, List.take_add_one, hl, List.map_append]
        unfold rowsV
        rw [List.map_append, List.map_append]
        exact congrArg (fun v => some (HO.lst ((((ls.take i).map fun l => bareS l ++ [10]).map mk).map V.str ++ [v]))) (congrArg V.str (ext_tl (by rw [tl_append]; rfl)))
      · rw [upd_ne (ne_of_none e nL)]
        exact s2 b o e
    · rintro H2 ⟨eL, s2⟩
      rw [List.length_map, List.length_map, List.take_length] at eL
      refine ⟨"", L, (ls.map fun l => bareS l ++ [10]).map mk, rfl, rfl, .inl (SqL.of eL), ?_, ?_⟩
      · have e0 : ("" : Str).length = 0 := by decide +kernel
        rw [e0, Nat.mul_zero, List.map_map, List.map_map]
        have sb := sum_map_le (fun l : List Nat => (mk (bareS l ++ [10])).length) (fun l => (l ++ [10]).length) ls fun l _ => by
          have := bareS_len l
          show (mk (bareS l ++ [10])).length ≤ (l ++ [10]).length
          rw [mk_len, List.length_append, List.length_append]
          omega
        have sf := sum_fed ls
        rw [List.map_map] at sf
        show (ls.map fun l => (mk (bareS l ++ [10])).length).sum + 0 ≤ _
        have sf2 : (ls.map fun l => (l ++ [10]).length).sum = (ls.map (·.length)).sum + ls.length := sf
        omega
      · have e0 : ("" : Str) = mk [] := ext_tl (by decide +kernel)
        rw [e0, join_mk]
        exact k _ (s1.trans s2)
theorem dirS_sub (x : Str) : sgSub (dirS x) x ∧ (dirS x).length ≤ x.length := by
  unfold dirS
  split
  · exact ⟨fun c hc => (by cases hc), Nat.zero_le _⟩
  · exact cut_sub x _ _
/-- the words of the directive of a line -/
def dwS (x : Str) : List Str := wordsS (Txt.replace (behindC (dirS x)) "," " ")
def dwL (l : List Nat) : List Str := dwS (mk l)
def sp_directive_words : Sp := fun vs H Q _ => ∃ x : Str, vs = [.str x] ∧ x.length ≤ 10000 ∧ 9 ∉ tl x ∧ 10 ∉ tl x ∧ ∀ (H' : Hp) (p : Addr), Same H H' → H p = none → H' p = some (.lst ((dwS x).map V.str)) → Q (.ref p) H'
/-- a text among texts -/
def has (x : Str) (l : List Str) : Bool := l.any fun y => y == x
theorem inV_str (x : Str) (l : List Str) : inV (.str x) (l.map V.str) = has x l := by
  unfold inV has
  rw [List.any_map]
  rfl
theorem flat_strs (l : List Str) : (l.map V.str).all flatV = true := by
  rw [List.all_map]
  exact List.all_eq_true.mpr fun _ _ => rfl
def sp_is_flag : Sp := fun vs H Q _ => ∃ x : Str, vs = [.str x] ∧ Q (.bl (has x v_FLAGS)) H
theorem ok_is_flag {f : Addr} {fd : FuncData} {dvs : List V} (F : Fn K "is_flag" s_is_flag dvs f fd) (m_isinstance : mg "isinstance" = none) (m_str : mg "str" = none) {a_FLAGS : Addr} (c_FLAGS : mg "FLAGS" = some (.ref a_FLAGS)) (q_FLAGS : ∀ H, SqT K H a_FLAGS (v_FLAGS.map V.str)) : FnOk P w K mg base CX0 1 f fd ["thing"] (sp_is_flag) := by
  refine Fn.okN F sc_is_flag (fun vs H Q E h => ?_) (fun cdv A outer s H vs Q E hr h => ?_)
  · obtain ⟨_, rfl, _⟩ := h
    rfl
  · obtain ⟨x, rfl, k⟩ := h
    refine ⟨_, (pss_one (ps_ret (pe_and (pe_callB call_isi (by rfl) m_isinstance (by decide +kernel) (pa_cons (pv 0) (pa_cons (pe_bltn (v := .ty "str") (by rfl) m_str (by decide +kernel) rfl) pa_nil))) (pe_one (pe_cmpR op_in_seq (pv 0) (pe_glob (v := .ref a_FLAGS) rfl c_FLAGS rfl) rfl))))), ?_⟩
    refine ⟨_, rfl, _, _, _, _, true, rfl, .ty "str", .base (.str x), kit_ty (by decide +kernel), true, rfl, ?_⟩
    refine ⟨_, rfl, a_FLAGS, _, rfl, .inr (q_FLAGS H), rfl, flat_strs _, ?_⟩
    show Q (.bl (inV (.str x) (v_FLAGS.map V.str))) H
    rw [inV_str]
    exact k
/-- an option word: a sign that turns on or off, and a flag -/
def okW (w : Str) : Bool := inV (.str (cutS w none (some 1))) [.str "+", .str "-"] && has (cutS w (some 1) none) v_FLAGS
def sp_is_option_word : Sp := fun vs H Q _ => ∃ x : Str, vs = [.str x] ∧ x.length ≤ 100000 ∧ ∀ H', Same H H' → Q (.bl (okW x)) H'
/-- the options that words tell -/
def putO (kvs : List (Key × V)) (w : Str) : List (Key × V) := putK kvs (Sum.inr (cutS w (some 1) none)) (.bl (decide (V.str (cutS w none (some 1)) = V.str "+")))
def wordsAll (ls : List (List Nat)) : List Str := (ls.map dwL).flatten
def optsOf (ls : List (List Nat)) : List (Key × V) := (wordsAll ls).foldl putO []
structure OptsOk (ls : List (List Nat)) : Prop where
  ok : ∀ l ∈ ls, ∀ w ∈ dwL l, okW w = true
  few : (wordsAll ls).length ≤ 100000
theorem wa_app (a b : List (List Nat)) : wordsAll (a ++ b) = wordsAll a ++ wordsAll b := by
  unfold wordsAll
  rw [List.map_append, List.flatten_append]
theorem wa_take (ls : List (List Nat)) (i : Nat) : (wordsAll (ls.take i)).length ≤ (wordsAll ls).length := by
  have e := congrArg List.length (wa_app (ls.take i) (ls.drop i))
  rw [List.take_append_drop, List.length_append] at e
  omega
theorem wa_mem {ls : List (List Nat)} {l : List Nat} (h : l ∈ ls) : (dwL l).length ≤ (wordsAll ls).length := by
  obtain ⟨a, b, rfl⟩ := List.append_of_mem h
  rw [wa_app, List.length_append]
  have : (wordsAll (l :: b)).length = (dwL l).length + (wordsAll b).length := by
    unfold wordsAll
    rw [List.map_cons, List.flatten_cons, List.length_append]
  omega
theorem rows_mem {init : List (List Nat)} {last l : List Nat} (h : l ∈ rowsOf init last) : l ∈ init ++ [last] := by
  rcases List.mem_append.mp h with h | h
  · exact List.mem_append_left _ h
  · unfold ifAny at h
    split at h
    · cases h
    · exact List.mem_append_right _ h
theorem joinL_mem {S : List Nat} {c : Nat} {l : List Nat} : ∀ {ls : List (List Nat)}, l ∈ ls → c ∈ l → c ∈ joinL S ls
  | [], h, _ => by cases h
  | [a], h, hc => by
    rw [List.mem_singleton.mp h] at hc
    exact hc
  | a :: b :: r, h, hc => by
    rw [joinL_more _ _ (by simp)]
    rcases List.mem_cons.mp h with rfl | h
    · exact List.mem_append_left _ hc
    · exact List.mem_append_right _ (List.mem_append_right _ (joinL_mem h hc))
theorem putO_len (kvs : List (Key × V)) (w : Str) : (putO kvs w).length ≤ kvs.length + 1 := by
  unfold putO putK
  split
  · rw [List.length_map]
    omega
  · rw [List.length_append]
    exact Nat.le_refl _
theorem fold_len : ∀ (ws : List Str) (kvs : List (Key × V)), (ws.foldl putO kvs).length ≤ kvs.length + ws.length
  | [], _ => Nat.le_refl _
  | w :: r, kvs => by
    have := fold_len r (putO kvs w)
    have := putO_len kvs w
    rw [List.foldl_cons, List.length_cons]
    omega
theorem okW_cons {w : Str} (h : okW w = true) : ∃ c r, tl w = c :: r := by
  cases e : tl w with
  | cons c r => exact ⟨c, r, rfl⟩
  | nil =>
    exfalso
    have hw : w = mk [] := ext_tl e
    subst hw
    revert h
    unfold okW
    rw [show cutS (mk []) none (some 1) = mk [] from ext_tl (by decide +kernel), show inV (.str (mk [])) [.str "+", .str "-"] = false by decide +kernel]
    intro h
    cases h
theorem words_le (x : Str) {w : Str} (h : w ∈ wordsS x) : w.length ≤ x.length := by
  unfold wordsS at h
  rw [sp_eq] at h
  exact split_mem x (y := [32]) (by simp) (by decide) (List.mem_filter.mp h).1
theorem dw_le {l : List Nat} {w : Str} (h : w ∈ dwL l) : w.length ≤ l.length := by
  have h1 := words_le _ h
  have e44 : ("," : Str) = ⟨[44].toArray⟩ := ext_tl (by decide +kernel)
  have lr : (Txt.replace (behindC (dirS (mk l))) "," " ").length = (behindC (dirS (mk l))).length := by
    rw [len_tl, e44, sp_eq, replace_map (behindC (dirS (mk l))) 44 32, List.length_map, ← len_tl]
  have := (behind_sub (dirS (mk l))).2
  have := (dirS_sub (mk l)).2
  rw [mk_len] at this
  omega
def sp_options_of : Sp := fun vs H Q _ => ∃ (x : Str) (init : List (List Nat)) (last : List Nat) (n : Int), vs = [.str x, .int n] ∧ tl x = joinL [10] (init ++ [last]) ∧ Rows10 (init ++ [last]) ∧ x.length ≤ 10000 ∧ (9 : Nat) ∉ tl x ∧ OptsOk (rowsOf init last) ∧ ∀ (H' : Hp) (p : Addr), Same H H' → H p = none → H' p = some (.dK (optsOf (rowsOf init last))) → Q (.ref p) H'
/-- a dict whose keys are flags -/
def FlagKeys (kvs : List (Key × V)) : Prop := ∀ kv ∈ kvs, ∃ z : Str, kv.1 = Sum.inr z ∧ has z v_FLAGS = true
theorem flagKeys_put {kvs : List (Key × V)} {w : Str} (h : FlagKeys kvs) (hw : okW w = true) : FlagKeys (putO kvs w) := fun kv hk => by
  have hf : has (cutS w (some 1) none) v_FLAGS = true := by
    unfold okW at hw
    rw [Bool.and_eq_true] at hw
    exact hw.2
  unfold putO putK at hk
  split at hk
  · obtain ⟨kv', h1, rfl⟩ := List.mem_map.mp hk
    obtain ⟨z, hz, hz2⟩ := h kv' h1
    refine ⟨z, ?_, hz2⟩
    split
    · exact hz
    · exact hz
  · rcases List.mem_append.mp hk with h1 | h1
    · exact h _ h1
    · rw [List.mem_singleton.mp h1]
      exact ⟨_, rfl, hf⟩
theorem flagKeys_fold : ∀ (ws : List Str) {kvs : List (Key × V)}, FlagKeys kvs → (∀ w ∈ ws, okW w = true) → FlagKeys (ws.foldl putO kvs)
  | [], _, h, _ => h
  | w :: r, kvs, h, hw => flagKeys_fold r (flagKeys_put h (hw w (List.mem_cons_self ..))) fun x hx => hw x (List.mem_cons_of_mem _ hx)
theorem flagKeys_opts {ls : List (List Nat)} (h : OptsOk ls) : FlagKeys (optsOf ls) := flagKeys_fold _ (fun kv hk => by cases hk) fun w hw => by
  obtain ⟨x, hx, hwx⟩ := List.mem_flatten.mp hw
  obtain ⟨l, hl, rfl⟩ := List.mem_map.mp hx
  exact h.ok l hl w hwx
def sp_require_flags : Sp := fun vs H Q _ => ∃ (d : Addr) (kvs : List (Key × V)), vs = [.ref d] ∧ H d = some (.dK kvs) ∧ FlagKeys kvs ∧ ∀ H', Same H H' → Q .non H'
theorem ok_require_flags {f : Addr} {fd : FuncData} {dvs : List V} (F : Fn K "require_flags" s_require_flags dvs f fd) (O_is_flag : Own P w K mg base "is_flag" 1 ["thing"] [] (sp_is_flag)) : FnOk P w K mg base CX0 2 f fd ["flags"] (sp_require_flags) := by
  refine Fn.okN F sc_require_flags (fun vs H Q E h => ?_) (fun cdv A outer s H vs Q E hr h => ?_)
  · obtain ⟨_, _, rfl, _⟩ := h
    rfl
  · obtain ⟨d, kvs, rfl, hd, hk, k⟩ := h
    refine ⟨_, (pss_one (ps_lock (ps_for PassesOwn.never rfl (pi_keys (pv 0)) (pg_name (i := 1) sc_require_flags.nd rfl (.inl rfl))
          (pss_one (ps_if (pt_not (pt_val (pe_own O_is_flag (hr.mono (by decide)) (by rfl) (pa_cons (pv 1) pa_nil))))
                (pss_one ps_never)
                pss_nil))))), ?_⟩
    refine ⟨d, .dK kvs, hd, trivial, fun od => ⟨.ref d, rfl, d, od, rfl, .inl ⟨kvs, upd_same, ?_⟩⟩⟩
    refine ⟨fun i m σ H1 => m = kvs.length - i ∧ i ≤ kvs.length ∧ (∃ v1 : Option V, σ = [some (.ref d), v1]) ∧ H1 = upd H d (.frz od (.dK kvs)), ⟨kvs.length, rfl, Nat.zero_le _, ⟨none, rfl⟩, rfl⟩, ?_⟩
    rintro i m σ H1 ⟨rfl, hi, ⟨v1, rfl⟩, rfl⟩
    by_cases hlt : i < kvs.length
    · refine .inr ⟨⟨upd_same, hlt⟩, fun σ' H' => (∃ v1 : Option V, σ' = [some (.ref d), v1]) ∧ H' = upd H d (.frz od (.dK kvs)), fun σ' H' h => ⟨kvs.length - (i + 1), by omega, rfl, hlt, h.1, h.2⟩, ?_⟩
      rintro y H' ⟨rfl, kk, v, hg, rfl⟩
      obtain ⟨z, hz, hf⟩ := hk _ (List.mem_of_getElem? hg)
      have ez : kV kk = .str z := by
        have : kk = Sum.inr z := hz
        rw [this]
        rfl
      rw [ez]
      refine ⟨.str z, rfl, z, rfl, true, by rw [hf], ?_⟩
      exact iteF ⟨⟨_, rfl⟩, rfl⟩
    · refine .inl ⟨⟨upd_same, by omega⟩, upd_same, k _ fun b o e => ?_⟩
      by_cases hb : b = d
      · rw [hb] at e ⊢
        rw [hd] at e
        cases e
        exact upd_same
      · rw [upd_ne hb, upd_ne hb]
        exact e
/-- the fields of an example -/
structure ExF (H : Hp) (fs : List (Str × V)) (src wt : Str) (er : V) (n i : Int) (br : Str) (kv : List (Key × V)) : Prop where
  source : fs.lookup ("source" : Str) = some (.str src)
  want : fs.lookup ("want" : Str) = some (.str wt)
  error : fs.lookup ("error" : Str) = some er
  line : fs.lookup ("line" : Str) = some (.int n)
  indent : fs.lookup ("indent" : Str) = some (.int i)
  options : ∃ o : Addr, fs.lookup ("options" : Str) = some (.ref o) ∧ H o = some (.dK kv)
  bare : fs.lookup ("bare" : Str) = some (.str br)
def bareT (init : List (List Nat)) (last : List Nat) : Str := mk (joinL [] ((rowsOf init last).map fun l => bareS l ++ [10]))
def sp_Example_init (C : Addr) : Sp := fun vs H Q _ => ∃ (x dx : Addr) (op : V) (kv : List (Key × V)) (src wt : Str) (init : List (List Nat)) (last : List Nat) (er : V) (n i : Int), vs = [.ref x, .str src, .str wt, er, .int n, .int i, op] ∧ (tl (fedS src) = joinL [10] (init ++ [last]) ∧ Rows10 (init ++ [last]) ∧ src.length ≤ 100000 ∧ (fedS src).length ≤ 10000) ∧ wt.length ≤ 100000 ∧ (er = .non ∨ ∃ e : Str, er = .str e ∧ e.length ≤ 100000) ∧
  H x = some (.ins C dx []) ∧ (op = .non ∧ kv = [] ∨ ∃ d, op = .ref d ∧ H d = some (.dK kv)) ∧ FlagKeys kv ∧ ∀ (H' : Hp) (fs : List (Str × V)), (∀ b o, H b = some o → b ≠ x → H' b = some o) → H' x = some (.ins C dx fs) → ExF H' fs (fedS src) (wantS wt) (errS er) n i (bareT init last) kv → Q .non H'
theorem ok_Example_init {f : Addr} {fd : FuncData} {dvs : List V} {kws : List (Str × V)} (F : FunD K "__init__" "Example.__init__" (defArgs s_Example_init) (defBody s_Example_init) (defScope s_Example_init) dvs kws f fd) {C_Example : Addr} (T_Example : Txt_Example K mg C_Example) (O_require_flags : Own P w K mg base "require_flags" 2 ["flags"] [] (sp_require_flags)) (O_fed : Own P w K mg base "fed" 1 ["text"] [] (sp_fed)) (O_bare_of : Own P w K mg base "bare_of" 3 ["source"] [] (sp_bare_of)) (m_dict : mg "dict" = none) : FnOk P w K mg base CX0 4 f fd ["self", "source", "want", "error", "line", "indent", "options"] (sp_Example_init C_Example) := by
  refine FunD_okN F sc_Example_init (fun vs H Q E h => ?_) (fun cdv A outer s H vs Q E hr h => ?_)
  · obtain ⟨_, _, _, _, _, _, _, _, _, _, _, rfl, _⟩ := h
    rfl
  · obtain ⟨x, dx, op, kv, src, wt, init, last, er, n, i, rfl, ⟨xe, h10, lsrc, hsl⟩, lw, he, hx, hop, hfk, k⟩ := h
    refine ⟨_, (pss_cut (ps_set (i := 7) sc_Example_init.nd rfl (.inl rfl) (pe_ifExp (pt_cmpR op_isN (pv 6) pe_non (nomark _)) pe_dnewK (pv 6)))
      (pss_cons (ps_expr (pe_own O_require_flags (hr.mono (by decide)) (by rfl) (pa_cons (pv 7) pa_nil)))
      (pss_cons (ps_fld (pv 0) (pe_own O_fed (hr.mono (by decide)) (by rfl) (pa_cons (pv 1) pa_nil)) rfl)
      (pss_cut (ps_fld (pv 0) (pe_ifExp (pt_tr (K' := K) (pv 2)) (pe_own O_fed (hr.mono (by decide)) (by rfl) (pa_cons (pv 2) pa_nil)) (pv 2)) rfl)
      (pss_cut (ps_fld (pv 0) (pe_ifExp (pt_cmpR op_isN (pv 3) pe_non (nomark _)) pe_non (pe_own O_fed (hr.mono (by decide)) (by rfl) (pa_cons (pv 3) pa_nil))) rfl)
      (pss_cons (ps_fld (pv 0) (pv 4) rfl)
      (pss_cons (ps_fld (pv 0) (pv 5) rfl)
      (pss_cons (ps_fld (pv 0) (pe_callTy call_dictD (by rfl) m_dict (by decide +kernel) (pa_cons (pv 7) pa_nil)) rfl)
      (pss_one (ps_fld (pv 0) (pe_own O_bare_of (hr.mono (by decide)) (by rfl) (pa_cons (pe_fldK (K' := K) rfl (pv 0) rfl) pa_nil)) rfl)))))))))), ?_⟩
    refine ⟨fun σ Hx => ∃ d : Addr, σ = [some (.ref x), some (.str src), some (.str wt), some er, some (.int n), some (.int i), some op, some (.ref d)] ∧ Same H Hx ∧ Hx d = some (.dK kv), ?_, ?_⟩
    · refine ⟨op, rfl, rfl, _, rfl, ?_⟩
      rcases hop with ⟨rfl, rfl⟩ | ⟨d, rfl, hd⟩
      · exact iteT (fun d nd => ⟨d, rfl, same_new nd, upd_same⟩)
      · rw [decide_eq_false (show V.ref d ≠ V.non from nofun)]
        exact iteF ⟨.ref d, rfl, d, rfl, fun _ _ e => e, hd⟩
    rintro σ Hx ⟨d, rfl, sx, hd⟩
    have hx0 := sx _ _ hx
    have xd : d ≠ x := fun e => by
      rw [e, hx0] at hd
      cases hd
    refine ⟨.ref d, rfl, d, kv, rfl, hd, hfk, fun H1 s1x => ?_⟩
    have s1 : Same H H1 := sx.trans s1x
    have hd1 := s1x _ _ hd
    have o1 : Out x H H1 := fun b o e _ => s1 _ _ e
    refine ⟨.str src, rfl, src, rfl, lsrc, .ref x, rfl, x, C_Example, dx, [], rfl, s1 _ _ hx, T_Example.cl, T_Example.n_source, by decide, ?_⟩
    have o2 : Out x H (upd H1 x (.ins C_Example dx (putF "source" (.str (fedS src)) []))) := o1.put
    have ex2 : Out x H1 (upd H1 x (.ins C_Example dx (putF "source" (.str (fedS src)) []))) := Out.put (fun b o e _ => e)
    have hd2 := ex2 _ _ hd1 xd
    have e2 : (upd H1 x (.ins C_Example dx (putF "source" (.str (fedS src)) []))) x = some (.ins C_Example dx (putF "source" (.str (fedS src)) [])) := upd_same
    have l2 : (putF "source" (.str (fedS src)) []).length ≤ 1 := put_len (Nat.le_refl 0)
    have k2 : (putF "source" (.str (fedS src)) []).lookup ("source" : Str) = some (.str (fedS src)) := by rw [lookup_putF, if_pos rfl]
    generalize putF "source" (.str (fedS src)) [] = f2 at o2 ex2 hd2 e2 l2 k2 ⊢
    generalize upd H1 x (.ins C_Example dx f2) = H2 at o2 ex2 hd2 e2 ⊢
    clear ex2
    refine ⟨fun σ H3 => ∃ f3 : List (Str × V), σ = [some (.ref x), some (.str src), some (.str wt), some er, some (.int n), some (.int i), some op, some (.ref d)] ∧ Out x H H3 ∧ H3 d = some (.dK kv) ∧ H3 x = some (.ins C_Example dx f3) ∧ f3.length ≤ 2 ∧ f3.lookup ("source" : Str) = some (.str (fedS src)) ∧ f3.lookup ("want" : Str) = some (.str (wantS wt)), ?_, ?_⟩
    · have fin : ∀ y : Str, y = wantS wt → ∃ f3 : List (Str × V), [some (V.ref x), some (.str src), some (.str wt), some er, some (.int n), some (.int i), some op, some (.ref d)] = [some (.ref x), some (.str src), some (.str wt), some er, some (.int n), some (.int i), some op, some (.ref d)] ∧ Out x H (upd H2 x (.ins C_Example dx (putF "want" (.str y) f2))) ∧ (upd H2 x (.ins C_Example dx (putF "want" (.str y) f2))) d = some (.dK kv) ∧ (upd H2 x (.ins C_Example dx (putF "want" (.str y) f2))) x = some (.ins C_Example dx f3) ∧ f3.length ≤ 2 ∧ f3.lookup ("source" : Str) = some (.str (fedS src)) ∧ f3.lookup ("want" : Str) = some (.str (wantS wt)) := fun y hy => by
        subst hy
        exact ⟨_, rfl, o2.put, (Out.put (fun b o e _ => e) : Out x H2 _) _ _ hd2 xd, upd_same, put_len l2, by rw [lookup_putF, if_neg (by decide +kernel), k2], by rw [lookup_putF, if_pos rfl]⟩
      refine ⟨.str wt, rfl, _, ⟨line_of (by omega), rfl⟩, ?_⟩
      cases hc : ((wt.length : Int) != 0) with
      | true => exact iteT ⟨.str wt, rfl, wt, rfl, lw, .ref x, rfl, x, C_Example, dx, f2, rfl, e2, T_Example.cl, T_Example.n_want, by omega, fin _ (by unfold wantS; rw [hc]; rfl)⟩
      | false => exact iteF ⟨.str wt, rfl, .ref x, rfl, x, C_Example, dx, f2, rfl, e2, T_Example.cl, T_Example.n_want, by omega, fin _ (by unfold wantS; rw [hc]; rfl)⟩
    rintro σ H3 ⟨f3, rfl, o3, hd3, e3, l3, k3, w3⟩
    clear e2 l2 k2 o2 hd2
    refine ⟨fun σ H4 => ∃ f4 : List (Str × V), σ = [some (.ref x), some (.str src), some (.str wt), some er, some (.int n), some (.int i), some op, some (.ref d)] ∧ Out x H H4 ∧ H4 d = some (.dK kv) ∧ H4 x = some (.ins C_Example dx f4) ∧ f4.length ≤ 3 ∧ f4.lookup ("source" : Str) = some (.str (fedS src)) ∧ f4.lookup ("want" : Str) = some (.str (wantS wt)) ∧ f4.lookup ("error" : Str) = some (errS er), ?_, ?_⟩
    · have fin : ∀ y : V, y = errS er → ∃ f4 : List (Str × V), [some (V.ref x), some (.str src), some (.str wt), some er, some (.int n), some (.int i), some op, some (.ref d)] = [some (.ref x), some (.str src), some (.str wt), some er, some (.int n), some (.int i), some op, some (.ref d)] ∧ Out x H (upd H3 x (.ins C_Example dx (putF "error" y f3))) ∧ (upd H3 x (.ins C_Example dx (putF "error" y f3))) d = some (.dK kv) ∧ (upd H3 x (.ins C_Example dx (putF "error" y f3))) x = some (.ins C_Example dx f4) ∧ f4.length ≤ 3 ∧ f4.lookup ("source" : Str) = some (.str (fedS src)) ∧ f4.lookup ("want" : Str) = some (.str (wantS wt)) ∧ f4.lookup ("error" : Str) = some (errS er) := fun y hy => by
        subst hy
        exact ⟨_, rfl, o3.put, (Out.put (fun b o e _ => e) : Out x H3 _) _ _ hd3 xd, upd_same, put_len l3, by rw [lookup_putF, if_neg (by decide +kernel), k3], by rw [lookup_putF, if_neg (by decide +kernel), w3], by rw [lookup_putF, if_pos rfl]⟩
      rcases he with rfl | ⟨e, rfl, le⟩
      · exact ⟨.non, rfl, rfl, _, rfl, iteT ⟨.ref x, rfl, x, C_Example, dx, f3, rfl, e3, T_Example.cl, T_Example.n_error, by omega, fin _ rfl⟩⟩
      · refine ⟨.str e, rfl, rfl, _, rfl, ?_⟩
        rw [decide_eq_false (show V.str e ≠ V.non from nofun)]
        exact iteF ⟨.str e, rfl, e, rfl, le, .ref x, rfl, x, C_Example, dx, f3, rfl, e3, T_Example.cl, T_Example.n_error, by omega, fin _ rfl⟩
    rintro σ H4 ⟨f4, rfl, o4, hd4, e4, l4, k4, w4, r4⟩
    clear e3 l3 k3 w3 o3 hd3
    refine ⟨.int n, rfl, .ref x, rfl, x, C_Example, dx, f4, rfl, e4, T_Example.cl, T_Example.n_line, by omega, ?_⟩
    have hd5 := (Out.put (fun b o e _ => e) : Out x H4 (upd H4 x (.ins C_Example dx (putF "line" (.int n) f4)))) _ _ hd4 xd
    have o5 : Out x H (upd H4 x (.ins C_Example dx (putF "line" (.int n) f4))) := o4.put
    have e5 : (upd H4 x (.ins C_Example dx (putF "line" (.int n) f4))) x = some (.ins C_Example dx (putF "line" (.int n) f4)) := upd_same
    have l5 := put_len (f := "line") (v := .int n) l4
    have k5 : (putF "line" (.int n) f4).lookup ("source" : Str) = some (.str (fedS src)) := by rw [lookup_putF, if_neg (by decide +kernel), k4]
    have w5 : (putF "line" (.int n) f4).lookup ("want" : Str) = some (.str (wantS wt)) := by rw [lookup_putF, if_neg (by decide +kernel), w4]
    have n5 : (putF "line" (.int n) f4).lookup ("line" : Str) = some (.int n) := by rw [lookup_putF, if_pos rfl]
    have r5 : (putF "line" (.int n) f4).lookup ("error" : Str) = some (errS er) := by rw [lookup_putF, if_neg (by decide +kernel), r4]
    generalize putF "line" (.int n) f4 = f5 at hd5 o5 e5 l5 k5 w5 n5 r5 ⊢
    generalize upd H4 x (.ins C_Example dx f5) = H5 at hd5 o5 e5 ⊢
    refine ⟨.int i, rfl, .ref x, rfl, x, C_Example, dx, f5, rfl, e5, T_Example.cl, T_Example.n_indent, by omega, ?_⟩
    have hd6 := (Out.put (fun b o e _ => e) : Out x H5 (upd H5 x (.ins C_Example dx (putF "indent" (.int i) f5)))) _ _ hd5 xd
    have o6 : Out x H (upd H5 x (.ins C_Example dx (putF "indent" (.int i) f5))) := o5.put
    have e6 : (upd H5 x (.ins C_Example dx (putF "indent" (.int i) f5))) x = some (.ins C_Example dx (putF "indent" (.int i) f5)) := upd_same
    have l6 := put_len (f := "indent") (v := .int i) l5
    have k6 : (putF "indent" (.int i) f5).lookup ("source" : Str) = some (.str (fedS src)) := by rw [lookup_putF, if_neg (by decide +kernel), k5]
    have w6 : (putF "indent" (.int i) f5).lookup ("want" : Str) = some (.str (wantS wt)) := by rw [lookup_putF, if_neg (by decide +kernel), w5]
    have n6 : (putF "indent" (.int i) f5).lookup ("line" : Str) = some (.int n) := by rw [lookup_putF, if_neg (by decide +kernel), n5]
    have i6 : (putF "indent" (.int i) f5).lookup ("indent" : Str) = some (.int i) := by rw [lookup_putF, if_pos rfl]
    have r6 : (putF "indent" (.int i) f5).lookup ("error" : Str) = some (errS er) := by rw [lookup_putF, if_neg (by decide +kernel), r5]
    generalize putF "indent" (.int i) f5 = f6 at hd6 o6 e6 l6 k6 w6 n6 i6 r6 ⊢
    generalize upd H5 x (.ins C_Example dx f6) = H6 at hd6 o6 e6 ⊢
    refine ⟨.ref d, rfl, d, kv, rfl, Rd.of hd6, fun p np => ⟨.ref x, rfl, x, C_Example, dx, f6, rfl, same_new np _ _ e6, T_Example.cl, T_Example.n_options, by omega, ?_⟩⟩
    have o7 : Out x H (upd (upd H6 p (.dK kv)) x (.ins C_Example dx (putF "options" (.ref p) f6))) := (o6.same (same_new np)).put
    have e7 : (upd (upd H6 p (.dK kv)) x (.ins C_Example dx (putF "options" (.ref p) f6))) x = some (.ins C_Example dx (putF "options" (.ref p) f6)) := upd_same
    have l7 := put_len (f := "options") (v := .ref p) l6
    have k7 : (putF "options" (.ref p) f6).lookup ("source" : Str) = some (.str (fedS src)) := by rw [lookup_putF, if_neg (by decide +kernel), k6]
    have w7 : (putF "options" (.ref p) f6).lookup ("want" : Str) = some (.str (wantS wt)) := by rw [lookup_putF, if_neg (by decide +kernel), w6]
    have n7 : (putF "options" (.ref p) f6).lookup ("line" : Str) = some (.int n) := by rw [lookup_putF, if_neg (by decide +kernel), n6]
    have i7 : (putF "options" (.ref p) f6).lookup ("indent" : Str) = some (.int i) := by rw [lookup_putF, if_neg (by decide +kernel), i6]
    have p7 : (putF "options" (.ref p) f6).lookup ("options" : Str) = some (.ref p) := by rw [lookup_putF, if_pos rfl]
    have px : p ≠ x := fun z => by rw [z, e6] at np; cases np
    have ep7 : (upd (upd H6 p (.dK kv)) x (.ins C_Example dx (putF "options" (.ref p) f6))) p = some (.dK kv) := by rw [upd_ne px]; exact upd_same
    have r7 : (putF "options" (.ref p) f6).lookup ("error" : Str) = some (errS er) := by rw [lookup_putF, if_neg (by decide +kernel), r6]
    generalize putF "options" (.ref p) f6 = f7 at o7 e7 l7 k7 w7 n7 i7 p7 ep7 r7 ⊢
    generalize upd (upd H6 p (.dK kv)) x (.ins C_Example dx f7) = H7 at o7 e7 ep7 ⊢
    refine ⟨.ref x, rfl, x, C_Example, dx, f7, _, rfl, e7, T_Example.cl, T_Example.n_source, k7, fedS src, init, last, rfl, xe, h10, hsl, fun H8 s8 => ?_⟩
    have o8 := o7.same s8
    have e8 := s8 _ _ e7
    refine ⟨.ref x, rfl, x, C_Example, dx, f7, rfl, e8, T_Example.cl, T_Example.n_bare, by omega, k _ (putF "bare" (.str (bareT init last)) f7) o8.put upd_same ⟨?_, ?_, ?_, ?_, ?_, ⟨p, ?_, ?_⟩, ?_⟩⟩
    · rw [lookup_putF, if_neg (by decide +kernel), k7]
    · rw [lookup_putF, if_neg (by decide +kernel), w7]
    · rw [lookup_putF, if_neg (by decide +kernel), r7]
    · rw [lookup_putF, if_neg (by decide +kernel), n7]
    · rw [lookup_putF, if_neg (by decide +kernel), i7]
    · rw [lookup_putF, if_neg (by decide +kernel), p7]
    · rw [upd_ne px]
      exact s8 _ _ ep7
    · rw [lookup_putF, if_pos rfl]
end

/-! ### the pieces of an ellipsis, in order -/
/-- the first place from a on, among n, at which p holds -/
def firstFrom (p : Nat → Bool) : Nat → Nat → Option Nat
  | 0, _ => none
  | n + 1, a => if p a = true then some a else firstFrom p n (a + 1)
theorem firstFrom_some {p : Nat → Bool} : ∀ {n a i : Nat}, firstFrom p n a = some i → a ≤ i ∧ i < a + n ∧ p i = true ∧ ∀ k, a ≤ k → k < i → p k = false
  | 0, a, i, h => by cases h
  | n + 1, a, i, h => by
    unfold firstFrom at h
    by_cases hp : p a = true
    · rw [if_pos hp] at h
      cases h
      exact ⟨Nat.le_refl _, by omega, hp, fun k h1 h2 => by omega⟩
    · rw [if_neg hp] at h
      obtain ⟨h1, h2, h3, h4⟩ := firstFrom_some h
      refine ⟨by omega, by omega, h3, fun k k1 k2 => ?_⟩
      by_cases e : k = a
      · rw [e]
        cases z : p a with
        | true => exact absurd z hp
        | false => rfl
      · exact h4 k (by omega) k2
theorem firstFrom_none {p : Nat → Bool} : ∀ {n a : Nat}, firstFrom p n a = none → ∀ i, a ≤ i → i < a + n → p i = false
  | 0, a, _, i, h1, h2 => by omega
  | n + 1, a, h, i, h1, h2 => by
    unfold firstFrom at h
    by_cases hp : p a = true
    · rw [if_pos hp] at h
      cases h
    · rw [if_neg hp] at h
      by_cases e : i = a
      · rw [e]
        cases z : p a with
        | true => exact absurd z hp
        | false => rfl
      · exact firstFrom_none h i (by omega) (by omega)
theorem firstFrom_eq {p : Nat → Bool} {n a i : Nat} (h1 : a ≤ i) (h2 : i < a + n) (h3 : p i = true) (h4 : ∀ k, a ≤ k → k < i → p k = false) : firstFrom p n a = some i := by
  cases h : firstFrom p n a with
  | none => rw [firstFrom_none h i h1 h2] at h3; cases h3
  | some j =>
    obtain ⟨g1, g2, g3, g4⟩ := firstFrom_some h
    rcases Nat.lt_trichotomy i j with z | z | z
    · rw [g4 i h1 z] at h3; cases h3
    · rw [z]
    · rw [h4 j g1 z] at g3; cases g3
theorem firstFrom_no {p : Nat → Bool} {n a : Nat} (h : ∀ i, a ≤ i → i < a + n → p i = false) : firstFrom p n a = none := by
  cases e : firstFrom p n a with
  | none => rfl
  | some j =>
    obtain ⟨g1, g2, g3, _⟩ := firstFrom_some e
    rw [h j g1 g2] at g3
    cases g3
/-- S stands at i, and ends at e or ahead of it -/
def fitsAt (S g : List Nat) (e i : Nat) : Bool := decide (i + S.length ≤ e) && pre S (g.drop i)
def chain (g : List Nat) (e : Nat) : List (List Nat) → Nat → Option Nat
  | [], a => some a
  | S :: r, a => match firstFrom (fitsAt S g e) (e + 1 - a) a with
    | none => none
    | some i => chain g e r (i + S.length)
def free (g : List Nat) : List (List Nat) → Nat → Option Nat
  | [], a => some a
  | S :: r, a => match firstFrom (fun i => pre S (g.drop i)) (g.length + 1 - a) a with
    | none => none
    | some i => free g r (i + S.length)
theorem free_le (g : List Nat) : ∀ {ps : List (List Nat)} {a m : Nat}, free g ps a = some m → a ≤ m
  | [], a, m, h => by cases h; exact Nat.le_refl _
  | S :: r, a, m, h => by
    unfold free at h
    cases e : firstFrom (fun i => pre S (g.drop i)) (g.length + 1 - a) a with
    | none => rw [e] at h; cases h
    | some i =>
      rw [e] at h
      have h1 := (firstFrom_some e).1
      have h2 := free_le g h
      omega
theorem chain_free (g : List Nat) (e : Nat) (he : e ≤ g.length) : ∀ (ps : List (List Nat)) (a : Nat), (∃ m, chain g e ps a = some m ∧ m ≤ e) ↔ ∃ m, free g ps a = some m ∧ m ≤ e
  | [], a => Iff.rfl
  | S :: r, a => by
    unfold chain free
    cases h : firstFrom (fun i => pre S (g.drop i)) (g.length + 1 - a) a with
    | none =>
      have h0 := firstFrom_none h
      have e1 : firstFrom (fitsAt S g e) (e + 1 - a) a = none := firstFrom_no fun i h1 h2 => by
        have h3 : pre S (g.drop i) = false := h0 i h1 (by omega)
        unfold fitsAt
        rw [h3, Bool.and_false]
      rw [e1]
    | some i =>
      obtain ⟨g1, g2, g3, g4⟩ := firstFrom_some h
      by_cases hi : i + S.length ≤ e
      · have e1 : firstFrom (fitsAt S g e) (e + 1 - a) a = some i := by
          refine firstFrom_eq g1 (by omega) ?_ fun k k1 k2 => ?_
          · unfold fitsAt
            rw [g3, decide_eq_true hi]
            rfl
          · have := g4 k k1 k2
            unfold fitsAt
            rw [this, Bool.and_false]
        rw [e1]
        exact chain_free g e he r (i + S.length)
      · have e1 : firstFrom (fitsAt S g e) (e + 1 - a) a = none := firstFrom_no fun k k1 k2 => by
          unfold fitsAt
          by_cases hk : k < i
          · have := g4 k k1 hk
            rw [this, Bool.and_false]
          · rw [decide_eq_false (by omega)]
            rfl
        rw [e1]
        constructor
        · rintro ⟨m, h1, _⟩
          cases h1
        · rintro ⟨m, h1, h2⟩
          have := free_le g h1
          omega
/-- an end -/
def ends (S g : List Nat) : Bool := decide (S.length ≤ g.length) && pre S (g.drop (g.length - S.length))
/-- a first piece, others, a last one, as the program looks for them -/
def inOrder (f : List Nat) (ps : List (List Nat)) (z g : List Nat) : Bool :=
  pre f g && (ends z g && (match chain g (g.length - z.length) ps f.length with | none => false | some a => decide (a ≤ g.length - z.length)))
theorem chain_app (g : List Nat) (e : Nat) : ∀ (ps qs : List (List Nat)) (a : Nat), chain g e (ps ++ qs) a = (chain g e ps a).bind fun b => chain g e qs b
  | [], qs, a => rfl
  | S :: r, qs, a => by
    show (match firstFrom (fitsAt S g e) (e + 1 - a) a with | none => none | some i => chain g e (r ++ qs) (i + S.length)) = (match firstFrom (fitsAt S g e) (e + 1 - a) a with | none => none | some i => chain g e r (i + S.length)).bind fun b => chain g e qs b
    cases firstFrom (fitsAt S g e) (e + 1 - a) a with
    | none => rfl
    | some i => exact chain_app g e r qs (i + S.length)
theorem free_app (g : List Nat) : ∀ (ps qs : List (List Nat)) (a : Nat), free g (ps ++ qs) a = (free g ps a).bind fun b => free g qs b
  | [], qs, a => rfl
  | S :: r, qs, a => by
    show (match firstFrom (fun i => pre S (g.drop i)) (g.length + 1 - a) a with | none => none | some i => free g (r ++ qs) (i + S.length)) = (match firstFrom (fun i => pre S (g.drop i)) (g.length + 1 - a) a with | none => none | some i => free g r (i + S.length)).bind fun b => free g qs b
    cases firstFrom (fun i => pre S (g.drop i)) (g.length + 1 - a) a with
    | none => rfl
    | some i => exact free_app g r qs (i + S.length)
/-- the same by all places at which each piece may end -/
def inOrderF (f : List Nat) (ps : List (List Nat)) (z g : List Nat) : Bool :=
  pre f g && (match free g ps f.length with | none => false | some m => decide (m + z.length ≤ g.length) && pre z (g.drop (g.length - z.length)))
theorem inOrder_eq (f : List Nat) (ps : List (List Nat)) (z g : List Nat) : inOrder f ps z g = inOrderF f ps z g := by
  unfold inOrder inOrderF ends
  cases hf : pre f g with
  | false => rfl
  | true =>
    show (decide (z.length ≤ g.length) && pre z (g.drop (g.length - z.length)) && (match chain g (g.length - z.length) ps f.length with | none => false | some a => decide (a ≤ g.length - z.length))) = (match free g ps f.length with | none => false | some m => decide (m + z.length ≤ g.length) && pre z (g.drop (g.length - z.length)))
    have key := chain_free g (g.length - z.length) (Nat.sub_le _ _) ps f.length
    rw [Bool.eq_iff_iff]
    constructor
    · intro h
      rw [Bool.and_eq_true, Bool.and_eq_true, decide_eq_true_eq] at h
      obtain ⟨⟨h1, h2⟩, h3⟩ := h
      have h4 : ∃ m, chain g (g.length - z.length) ps f.length = some m ∧ m ≤ g.length - z.length := by
        cases e : chain g (g.length - z.length) ps f.length with
        | none => rw [e] at h3; cases h3
        | some a =>
          rw [e] at h3
          exact ⟨a, rfl, of_decide_eq_true h3⟩
      obtain ⟨m, e, hm⟩ := key.mp h4
      rw [e]
      show (decide (m + z.length ≤ g.length) && pre z (g.drop (g.length - z.length))) = true
      rw [h2, decide_eq_true (by omega)]
      rfl
    · intro h
      cases e : free g ps f.length with
      | none => rw [e] at h; cases h
      | some m =>
        rw [e] at h
        have h' : (decide (m + z.length ≤ g.length) && pre z (g.drop (g.length - z.length))) = true := h
        rw [Bool.and_eq_true, decide_eq_true_eq] at h'
        obtain ⟨a, ea, ha⟩ := key.mpr ⟨m, e, by omega⟩
        rw [ea, h'.2, decide_eq_true (by omega)]
        show (true && true && decide (a ≤ g.length - z.length)) = true
        rw [decide_eq_true ha]
        rfl
/-! ### find within two places -/
theorem at_any {x y : Str} {hi i : Nat} (hh : hi ≤ x.length) : StrLaws.At x y hi i ↔ fitsAt (tl y) (tl x) hi i = true := by
  have hl := len_tl y
  unfold StrLaws.At fitsAt
  rw [StrLaws.subAt_eq, hl, Bool.and_eq_true, decide_eq_true_eq]
  rfl
theorem occ_within (x y : Str) (lo hi : Nat) :
    (Builtin.Str.occurrences x y lo hi 1 = [] ∧ ∀ i, lo ≤ i → ¬ StrLaws.At x y hi i) ∨
    ∃ i r, Builtin.Str.occurrences x y lo hi 1 = i :: r ∧ lo ≤ i ∧ StrLaws.At x y hi i ∧ ∀ k, lo ≤ k → k < i → ¬ StrLaws.At x y hi k := by
  rw [StrLaws.occ_eq]
  rcases StrLaws.occ_first x y hi 1 (Nat.le_refl _) (List.range' lo (hi + 1 - lo)) lo (fun i hi => by have := List.mem_range'_1.mp hi; omega) with ⟨h0, hn⟩ | ⟨pr, a, post, e, h0, ha, hn⟩
  · refine .inl ⟨by rw [h0], fun i hlo hi' => ?_⟩
    exact hn i (by have := hi'.1; exact List.mem_range'_1.mpr ⟨hlo, by omega⟩) hi'
  · have ha1 : a ∈ List.range' lo (hi + 1 - lo) := by rw [e]; simp
    have hl : lo ≤ a := (List.mem_range'_1.mp ha1).1
    refine .inr ?_
    cases hr : (forIn (List.range' lo (hi + 1 - lo)) ((#[] : Array Nat), lo) (StrLaws.occBody x y hi 1)).run.fst.toList with
    | nil =>
      rw [← Array.getElem?_toList, hr] at h0
      cases h0
    | cons b r =>
      rw [← Array.getElem?_toList, hr] at h0
      have eb : b = a := Option.some.inj h0
      subst eb
      refine ⟨b, r, rfl, hl, ha, fun k k1 k2 hk => ?_⟩
      have hk1 : k ∈ List.range' lo (hi + 1 - lo) := List.mem_range'_1.mpr ⟨k1, by have := hk.1; omega⟩
      rw [e] at hk1
      rcases List.mem_append.mp hk1 with z | z
      · exact hn k z hk
      · have hp : (List.range' lo (hi + 1 - lo)).Pairwise (· < ·) := List.pairwise_lt_range'
        rw [e] at hp
        have hq := (List.pairwise_append.mp hp).2.1
        rcases List.mem_cons.mp z with z | z
        · omega
        · have := (List.pairwise_cons.mp hq).1 k z
          omega
theorem find_first (x y : Str) (lo hi : Nat) (hh : hi ≤ x.length) (hlo : lo ≤ x.length) : Txt.findIn x y (lo : Int) (hi : Int) = (match firstFrom (fitsAt (tl y) (tl x) hi) (hi + 1 - lo) lo with | some i => (i : Int) | none => -1) := by
  unfold Txt.findIn
  have e1 : fromIndex x.length (lo : Int) = lo := by
    unfold fromIndex
    rw [if_neg (by omega)]
    omega
  have e2 : toIndexW x.length (hi : Int) = hi := by
    unfold toIndexW
    rw [if_neg (by omega)]
    omega
  rw [e1, e2]
  rcases occ_within x y lo hi with ⟨h0, hn⟩ | ⟨i, r, h0, h1, h2, h3⟩
  · rw [h0, firstFrom_no fun i i1 i2 => ?_]
    cases z : fitsAt (tl y) (tl x) hi i with
    | false => rfl
    | true => exact absurd ((at_any hh).mpr z) (hn i i1)
  · rw [h0, firstFrom_eq h1 ?_ ((at_any hh).mp h2) fun k k1 k2 => ?_]
    · have := h2.1
      omega
    · cases z : fitsAt (tl y) (tl x) hi k with
      | false => rfl
      | true => exact absurd ((at_any hh).mpr z) (h3 k k1 k2)

section
variable {X : Cx}
/-- a list or a tuple, walked -/
def SqA (K : PySem.W.Frag) (H : Hp) (a : Addr) (xs : List V) : Prop := SqL K H a xs ∨ SqT K H a xs
def iSeq (K : PySem.W.Frag) (tl : TE) : TI := fun σ H R => tl σ H fun x H1 => ∃ a, x = .ref a ∧ ((∃ xs, SqL K H1 a xs) ∧ R (Itl K a) H1 ∨ (∃ xs, SqT K H1 a xs) ∧ R (Itt K a) H1)
theorem pi_seq {tg l : Expr} {tl : TE} (hl : PE X l tl) : PI X tg l (iSeq X.K tl) := by
  refine ⟨fun pins s σ H R I h => ?_⟩
  refine thn (hl.run pins s σ H _ I h) fun v s1 ⟨x, H1, I1, r1, q1⟩ => ?_
  obtain ⟨a, e, q⟩ := q1
  subst e
  cases r1
  rcases q with ⟨⟨xs, hq⟩, q⟩ | ⟨⟨xs, hq⟩, q⟩
  · obtain ⟨its, rv, p, hz⟩ := I1.list hq
    refine wpAny_pyIter_list p.isList ?_
    refine ⟨s1.heap.objs.size, [s1.heap.objs.size], _, _, H1, rfl, I1.kept (t' := s1.toks) fun b o e => Heap.get?_push_of_some _ e, turn_list a _, ⟨_, Heap.get?_push_size _ rfl, rfl, rfl⟩, fun b hb => ?_, q⟩
    have e : b = s1.heap.objs.size := by simpa using hb
    subst e
    exact I1.fpOk (Nat.le_refl _) (I1.hok.fresh (Nat.le_refl _))
  · obtain ⟨its, rv, p, hz⟩ := I1.tuple hq
    refine wpAny_pyIter_tuple (show s1.heap.IsTuple a its.toArray from p) ?_
    refine ⟨s1.heap.objs.size, [s1.heap.objs.size], _, _, H1, rfl, I1.kept (t' := s1.toks) fun b o e => Heap.get?_push_of_some _ e, turn_tuple a _, ⟨_, Heap.get?_push_size _ rfl, rfl, rfl⟩, fun b hb => ?_, q⟩
    have e : b = s1.heap.objs.size := by simpa using hb
    subst e
    exact I1.fpOk (Nat.le_refl _) (I1.hok.fresh (Nat.le_refl _))
end
/-- a text among texts -/
theorem has_iff {x : Str} {l : List Str} : has x l = true ↔ x ∈ l := by
  unfold has
  rw [List.any_eq_true]
  constructor
  · rintro ⟨y, hy, e⟩
    rw [← eq_of_beq e]
    exact hy
  · intro h
    exact ⟨x, h, beq_self_eq_true x⟩
section
variable {P : Program} {w : World} {K : PySem.W.Frag} {mg : Str → Option Value} {base : Heap}
/-- flags as they may be passed: a list or a tuple of flags -/
def sp_require_flags0 (K : PySem.W.Frag) : Sp := fun vs H Q _ => ∃ (p : Addr) (xs : List Str), vs = [.ref p] ∧ SqA K H p (xs.map V.str) ∧ (∀ x ∈ xs, has x v_FLAGS = true) ∧ Q .non H
theorem ok_require_flags0 {f : Addr} {fd : FuncData} {dvs : List V} (F : Fn K "require_flags" s_require_flags0 dvs f fd) (O_is_flag : Own P w K mg base "is_flag" 1 ["thing"] [] (sp_is_flag)) : FnOk P w K mg base CX0 2 f fd ["flags"] (sp_require_flags0 K) := by
  refine Fn.okN F sc_require_flags0 (fun vs H Q E h => ?_) (fun cdv A outer s H vs Q E hr h => ?_)
  · obtain ⟨_, _, rfl, _⟩ := h
    rfl
  · obtain ⟨p, xs, rfl, hp, hx, k⟩ := h
    refine ⟨_, (pss_one (ps_for PassesOwn.never rfl (pi_seq (pv 0)) (pg_name (i := 1) sc_require_flags0.nd rfl (.inl rfl))
          (pss_one (ps_if (pt_not (pt_val (pe_own O_is_flag (hr.mono (by decide)) (by rfl) (pa_cons (pv 1) pa_nil))))
                (pss_one ps_never)
                pss_nil)))), ?_⟩
    have turn : ∀ (D : Ends) (i : Nat) (v : V) (σ : L2.St) (H1 : Hp), (xs.map V.str)[i]? = some v → (∃ v1 : Option V, σ = [some (.ref p), v1] ∧ H1 = H) → ∃ z : Str, v = .str z ∧ has z v_FLAGS = true := by
      intro D i v σ H1 hv _
      rw [List.getElem?_map] at hv
      cases e : xs[i]? with
      | none =>
        rw [e] at hv
        cases hv
      | some z =>
        rw [e] at hv
        exact ⟨z, (Option.some.inj hv).symm, hx z (List.mem_of_getElem? e)⟩
    refine ⟨_, rfl, p, rfl, ?_⟩
    rcases hp with hp | hp
    · refine .inl ⟨⟨_, hp⟩, for_list (K := K) (a := p) (xs := xs.map V.str) (fun i σ H1 => ∃ v1 : Option V, σ = [some (.ref p), v1] ∧ H1 = H) ⟨none, rfl, rfl⟩ (fun i σ H1 _ h1 => by obtain ⟨_, _, rfl⟩ := h1; exact hp) ?_ ?_⟩
      · rintro i v σ H1 hv ⟨v1, rfl, rfl⟩
        obtain ⟨z, rfl, hz⟩ := turn { nx := fun _ _ => True, rt := fun _ _ => True, bk := fun _ _ => True, ct := fun _ _ => True } i v _ H1 hv ⟨v1, rfl, rfl⟩
        refine ⟨_, rfl, z, rfl, _, rfl, ?_⟩
        rw [hz]
        exact iteF ⟨_, rfl, rfl⟩
      · rintro σ H1 ⟨v1, rfl, rfl⟩
        exact k
    · refine .inr ⟨⟨_, hp⟩, for_tup (K := K) (a := p) (xs := xs.map V.str) (fun i σ H1 => ∃ v1 : Option V, σ = [some (.ref p), v1] ∧ H1 = H) ⟨none, rfl, rfl⟩ (fun i σ H1 _ h1 => by obtain ⟨_, _, rfl⟩ := h1; exact hp) ?_ ?_⟩
      · rintro i v σ H1 hv ⟨v1, rfl, rfl⟩
        obtain ⟨z, rfl, hz⟩ := turn { nx := fun _ _ => True, rt := fun _ _ => True, bk := fun _ _ => True, ct := fun _ _ => True } i v _ H1 hv ⟨v1, rfl, rfl⟩
        refine ⟨_, rfl, z, rfl, _, rfl, ?_⟩
        rw [hz]
        exact iteF ⟨_, rfl, rfl⟩
      · rintro σ H1 ⟨v1, rfl, rfl⟩
        exact k
end

/-! ### all stages -/
def DT : List Nat := [46, 46, 46]
def byPieces (w g : List Nat) : Bool := match spl DT 0 [] w with
  | [] => false
  | f :: r => if r.isEmpty = true then false else inOrder f r.dropLast (r.getLastD []) g
def truth (w g : List Nat) : Bool := (w == [49, 10] && g == [84, 114, 117, 101, 10]) || (w == [48, 10] && g == [70, 97, 108, 115, 101, 10])
def shownW (bl nw : Bool) (w : List Nat) : List Nat :=
  if nw = true then wordsOf (if bl = true then w else marksOf w) else if bl = true then w else marksOf w
def shownG (bl nw : Bool) (g : List Nat) : List Nat :=
  if nw = true then wordsOf (if bl = true then g else blanksOf g) else if bl = true then g else blanksOf g
def lets (w g : List Nat) (t1 bl nw el : Bool) : Bool :=
  if w = g then true else if (!t1 && truth w g) = true then true else
  if shownW bl nw w = shownG bl nw g then true else el && byPieces (shownW bl nw w) (shownG bl nw g)
def letsF (w g : List Nat) (xs : List Str) : Bool := lets w g (has "DONT_ACCEPT_TRUE_FOR_1" xs) (has "DONT_ACCEPT_BLANKLINE" xs) (has "NORMALIZE_WHITESPACE" xs) (has "ELLIPSIS" xs)
theorem dt_eq : ("..." : Str) = ⟨DT.toArray⟩ := ext_tl (by decide +kernel)
theorem spl_two {S : List Nat} (hS : S ≠ []) : ∀ (l acc : List Nat), 1 < (spl S 0 acc l).length ↔ ∃ i, pre S (l.drop i) = true
  | [], acc => by
    rw [spl_nil]
    constructor
    · intro h
      exact absurd h (by simp)
    · rintro ⟨i, h⟩
      rw [List.drop_nil, pre_nil hS] at h
      cases h
  | c :: r, acc => by
    cases h : pre S (c :: r) with
    | true =>
      rw [spl_hit h]
      refine ⟨fun _ => ⟨0, h⟩, fun _ => ?_⟩
      have := List.length_pos_iff.mpr (spl_ne S (S.length - 1) [] r)
      rw [List.length_cons]
      omega
    | false =>
      rw [spl_miss h, spl_two hS r (acc ++ [c])]
      constructor
      · rintro ⟨i, e⟩
        exact ⟨i + 1, e⟩
      · rintro ⟨i, e⟩
        cases i with
        | zero => rw [List.drop_zero, h] at e; cases e
        | succ i => exact ⟨i, e⟩
theorem dots_in (w : Str) : (!(Builtin.Str.occurrences w ⟨DT.toArray⟩ 0 w.length 1).isEmpty) = decide (1 < (spl DT 0 [] (tl w)).length) := by
  rw [Bool.eq_iff_iff, StrLaws.found_iff, decide_eq_true_eq, spl_two (by decide)]
  constructor
  · rintro ⟨i, h⟩
    exact ⟨i, (at_iff (x := w) (y := ⟨DT.toArray⟩) (by decide) i).mp h⟩
  · rintro ⟨i, h⟩
    exact ⟨i, (at_iff (x := w) (y := ⟨DT.toArray⟩) (by decide) i).mpr h⟩
theorem three_parts {α : Type} : ∀ {l : List α}, 1 < l.length → ∃ f inner z, l = f :: (inner ++ [z])
  | [], h => by simp at h
  | [_], h => by simp at h
  | a :: b :: r, _ => ⟨a, (b :: r).dropLast, (b :: r).getLast (List.cons_ne_nil _ _), by rw [List.dropLast_concat_getLast]⟩
theorem byPieces_parts {w g : List Nat} {f z : Str} {inner : List Str} (h : spl DT 0 [] w = (f :: (inner ++ [z])).map tl) : byPieces w g = inOrder (tl f) (inner.map tl) (tl z) g := by
  unfold byPieces
  rw [h, List.map_cons, List.map_append]
  show (if (inner.map tl ++ [tl z]).isEmpty = true then false else inOrder (tl f) (inner.map tl ++ [tl z]).dropLast ((inner.map tl ++ [tl z]).getLastD []) g) = _
  rw [if_neg (by simp), List.dropLast_concat]
  congr 1
  simp
theorem byPieces_one {w g : List Nat} (h : ¬ 1 < (spl DT 0 [] w).length) : byPieces w g = false := by
  unfold byPieces
  cases e : spl DT 0 [] w with
  | nil => rfl
  | cons f r =>
    rw [e] at h
    cases r with
    | nil => rfl
    | cons a r => exact absurd (by simp) h
theorem shownW_len : ∀ (bl nw : Bool) (w : List Nat), (shownW bl nw w).length ≤ w.length
  | false, false, w => marks_len w
  | false, true, w => Nat.le_trans (words_len (marksOf w)) (marks_len w)
  | true, false, w => Nat.le_refl _
  | true, true, w => words_len w
theorem shownG_len : ∀ (bl nw : Bool) (w : List Nat), (shownG bl nw w).length ≤ w.length
  | false, false, w => blanks_len w
  | false, true, w => Nat.le_trans (words_len (blanksOf w)) (blanks_len w)
  | true, false, w => Nat.le_refl _
  | true, true, w => words_len w
theorem dec_strs (x y : Str) : decide (V.str x = V.str y) = decide (tl x = tl y) := by
  rw [Bool.eq_iff_iff, decide_eq_true_eq, decide_eq_true_eq]
  exact ⟨fun h => congrArg tl (V.str.inj h), fun h => congrArg V.str (ext_tl h)⟩

theorem truth_get (w g : Str) : decide (v_TRUTHS w = .str g) = truth (tl w) (tl g) := by
  have e1 : tl ("1\n" : Str) = [49, 10] := by decide +kernel
  have e2 : tl ("0\n" : Str) = [48, 10] := by decide +kernel
  have e3 : tl ("True\n" : Str) = [84, 114, 117, 101, 10] := by decide +kernel
  have e4 : tl ("False\n" : Str) = [70, 97, 108, 115, 101, 10] := by decide +kernel
  unfold v_TRUTHS truth
  by_cases h1 : w = "1\n"
  · subst h1
    rw [if_pos rfl, dec_strs, e1, e3]
    by_cases hg : tl g = [84, 114, 117, 101, 10]
    · rw [hg]
      decide
    · rw [decide_eq_false fun z => hg z.symm, beq_eq_false_iff_ne.mpr hg]
      rfl
  · have h1' : ¬ tl w = [49, 10] := fun z => h1 (ext_tl (z.trans e1.symm))
    rw [if_neg h1]
    by_cases h2 : w = "0\n"
    · subst h2
      rw [if_pos rfl, dec_strs, e2, e4]
      by_cases hg : tl g = [70, 97, 108, 115, 101, 10]
      · rw [hg]
        decide
      · rw [decide_eq_false fun z => hg z.symm, beq_eq_false_iff_ne.mpr hg, Bool.and_false]
        rfl
    · have h2' : ¬ tl w = [48, 10] := fun z => h2 (ext_tl (z.trans e2.symm))
      rw [if_neg h2]
      have : decide (V.non = V.str g) = false := rfl
      rw [this, beq_eq_false_iff_ne.mpr h1', beq_eq_false_iff_ne.mpr h2']
      rfl
theorem truth_scal (w g : Str) : scal (v_TRUTHS w) (.str g) = true := by
  unfold v_TRUTHS
  split
  · rfl
  · split <;> rfl
theorem dict_TRUTHS {K : PySem.W.Frag} {a : Addr} {n : Nat} {h0 h1 : Int} {t0 u0 t1 u1 : Tok} (l : K.lookup a = some ⟨.type "dict", none, .dict #[⟨h0, .str "1\n" t0, .str "True\n" u0⟩, ⟨h1, .str "0\n" t1, .str "False\n" u1⟩] n, #[]⟩) :
    ∀ z : Str, ∃ r, PySem.W.nsIn K a z = some r ∧ RelV (v_TRUTHS z) (r.getD .none) := by
  intro z
  unfold PySem.W.nsIn v_TRUTHS
  rw [l]
  by_cases h1 : z = "1\n"
  · subst h1
    exact ⟨some (.str "True\n" u0), rfl, u0, rfl⟩
  · rw [if_neg h1]
    by_cases h2 : z = "0\n"
    · subst h2
      exact ⟨some (.str "False\n" u1), rfl, u1, rfl⟩
    · rw [if_neg h2]
      refine ⟨none, ?_, rfl⟩
      have n1 : (("1\n" : Str) == z) = false := beq_eq_false_iff_ne.mpr fun e => h1 e.symm
      have n2 : (("0\n" : Str) == z) = false := beq_eq_false_iff_ne.mpr fun e => h2 e.symm
      simp only [List.find?, Value.isStr, n1, n2]
      rfl

/-! ### slices of texts; lines exchanged one by one -/
theorem mk_eq : ("<BLANKLINE>" : Str) = ⟨MK.toArray⟩ := ext_tl (by decide +kernel)
section
variable {P : Program} {w : World} {K : PySem.W.Frag} {mg : Str → Option Value} {base : Heap}
def sp_is_mark : Sp := fun vs H Q _ => ∃ x : Str, vs = [.str x] ∧ x.length ≤ 1000000 ∧ Q (.bl (isMark (tl x))) H
theorem ok_is_mark {f : Addr} {fd : FuncData} {dvs : List V} (F : Fn K "is_mark" s_is_mark dvs f fd) (O_is_blank : Own P w K mg base "is_blank" 1 ["line"] [] (sp_is_blank)) (m_len : mg "len" = none) {t_MARK_stages : Tok} (c_MARK_stages : mg "MARK_stages" = some (.str "<BLANKLINE>" t_MARK_stages)) : FnOk P w K mg base CX0 2 f fd ["line"] (sp_is_mark) := by
  refine Fn.okN F sc_is_mark (fun vs H Q E h => ?_) (fun cdv A outer s H vs Q E hr h => ?_)
  · obtain ⟨_, rfl, _⟩ := h
    rfl
  · obtain ⟨x, rfl, hx, k⟩ := h
    refine ⟨_, (pss_one (ps_ret (pe_and (pe_m1 PySem.F.slot_str_startswith PySem.F.type_str_startswith mt_startswith (pv 0) (pe_glob (v := .str "<BLANKLINE>") rfl c_MARK_stages ⟨_, rfl⟩)) (pe_one (pe_own O_is_blank (hr.mono (by decide)) (by rfl) (pa_cons (pe_slice sl_str (pv 0) (po_some (pe_callB call_len_str (by rfl) m_len PySem.boot_len (pa_cons (pe_glob (v := .str "<BLANKLINE>") rfl c_MARK_stages ⟨_, rfl⟩) pa_nil))) po_none) pa_nil)))))), ?_⟩
    refine ⟨.str x, rfl, ⟨_, rfl⟩, x, "<BLANKLINE>", rfl, rfl, _, rfl, ?_⟩
    rw [mk_eq, starts_pre x (y := MK) (by decide)]
    unfold isMark at k
    cases hm : pre MK (tl x) with
    | false =>
      rw [hm] at k
      exact iteF k
    | true =>
      rw [hm] at k
      refine iteT ⟨.str x, rfl, ⟨MK.toArray⟩, rfl, by decide, 11, rfl, x, rfl, line_of hx, cutS x (some 11) none, rfl, Nat.le_trans (cutS_length _ _ _) hx, ?_⟩
      have e := cutS_from x 11
      rw [show (some ((11 : Nat) : Int)) = (some (11 : Int)) from rfl] at e
      rw [e]
      exact k
def emptied (f : List Nat → Bool) (l : Str) : Str := if f (tl l) then ⟨#[]⟩ else l
theorem emptied_len (f : List Nat → Bool) (l : Str) : (emptied f l).length ≤ l.length := by
  unfold emptied
  split
  · exact Nat.zero_le _
  · exact Nat.le_refl _
theorem emptied_join (f : List Nat → Bool) (x : Str) : Txt.join ⟨[10].toArray⟩ ((Txt.split x ⟨[10].toArray⟩).map (emptied f)) = ⟨(joinL [10] ((spl [10] 0 [] (tl x)).map fun l => if f l then [] else l)).toArray⟩ := by
  refine ext_tl ?_
  rw [join_eq, tl_join, List.map_map, ← splitOf x (y := [10]) (by simp) (by decide), List.map_map]
  refine congrArg (joinL [10]) (List.map_congr_left fun a _ => ?_)
  show tl (emptied f a) = if f (tl a) then [] else tl a
  unfold emptied
  split <;> rfl
theorem emptied_sizes (f : List Nat → Bool) (x : Str) (hx : x.length ≤ 1000000) : (((Txt.split x ⟨[10].toArray⟩).map (emptied f)).map (·.length)).sum + ((Txt.split x ⟨[10].toArray⟩).map (emptied f)).length * (⟨[10].toArray⟩ : Str).length ≤ 16777216 := by
  have s := split_sizes x (y := [10]) (by simp) (by decide)
  rw [List.map_map, List.length_map]
  have h := sum_map_le (fun z => (emptied f z).length) (fun z => z.length) (Txt.split x ⟨[10].toArray⟩) fun z _ => emptied_len f z
  have e : ((Txt.split x ⟨[10].toArray⟩).map ((fun z => z.length) ∘ emptied f)).sum = ((Txt.split x ⟨[10].toArray⟩).map fun z => (emptied f z).length).sum := rfl
  have l1 : (⟨[10].toArray⟩ : Str).length = 1 := rfl
  rw [e, l1]
  omega
theorem take_map {α β : Type} (f : α → β) {l : List α} {i : Nat} {a : α} (h : l[i]? = some a) : (l.take (i + 1)).map f = (l.take i).map f ++ [f a] := by
  rw [List.take_add_one, h, List.map_append]
  rfl
def sp_marks_emptied : Sp := fun vs H Q _ => ∃ x : Str, vs = [.str x] ∧ x.length ≤ 1000000 ∧ ∀ H', Same H H' → Q (.str ⟨(marksOf (tl x)).toArray⟩) H'
theorem ok_marks_emptied {f : Addr} {fd : FuncData} {dvs : List V} (F : Fn K "marks_emptied" s_marks_emptied dvs f fd) (O_is_mark : Own P w K mg base "is_mark" 2 ["line"] [] (sp_is_mark)) : FnOk P w K mg base CX0 3 f fd ["want"] (sp_marks_emptied) := by
  refine Fn.okN F sc_marks_emptied (fun vs H Q E h => ?_) (fun cdv A outer s H vs Q E hr h => ?_)
  · obtain ⟨_, rfl, _⟩ := h
    rfl
  · obtain ⟨x, rfl, hx, k⟩ := h
    refine ⟨_, (pss_one (ps_ret (pe_m1 PySem.F.slot_str_join PySem.F.type_str_join mt_join pe_str (pe_lc (own := [("line", 1)]) (g := gName 1) (tt := tYes) (by rfl) sc_marks_emptied.nd (pi_list (pe_m1 PySem.F.slot_str_split PySem.F.type_str_split mt_split (pv 0) pe_str)) (blkOk_by (own := [("line", 1)]) (N := ["want", "line"]) (sc := defScope s_marks_emptied) (by decide +kernel)) (fun _ _ _ _ _ => (pg_name (i := 1) sc_marks_emptied.nd rfl (.inl rfl))) (fun _ _ _ _ _ => pts_nil) (fun _ _ _ _ _ => (pe_ifExp (pt_val (pe_own O_is_mark (hr.mono (by decide)) (by rfl) (pa_cons (pv 1) pa_nil))) pe_str (pv 1))))))), ?_⟩
    have s := split_sizes x (y := [10]) (by simp) (by decide)
    refine ⟨⟨_, rfl⟩, .str x, rfl, ⟨_, rfl⟩, x, "\n", rfl, rfl, by decide +kernel, by rw [sizeLine_eq]; omega, fun p np => ⟨p, rfl, ⟨_, SqL.of upd_same⟩, fun L nL => ?_⟩⟩
    rw [nl_eq] at nL ⊢
    have s1 := same_new (o := .lst ((Txt.split x ⟨[10].toArray⟩).map V.str)) np
    have e1 : (upd H p (.lst ((Txt.split x ⟨[10].toArray⟩).map V.str))) p = some (.lst ((Txt.split x ⟨[10].toArray⟩).map V.str)) := upd_same
    generalize upd H p (.lst ((Txt.split x ⟨[10].toArray⟩).map V.str)) = H1 at nL s1 e1 ⊢
    have pL : p ≠ L := ne_of_none e1 nL
    refine lc_list (K := K) (a := p) (xs := (Txt.split x ⟨[10].toArray⟩).map V.str) (fun i H2 => H2 L = some (.lst ((((Txt.split x ⟨[10].toArray⟩).take i).map (emptied isMark)).map V.str)) ∧ Same H1 H2)
      ⟨upd_same, same_new nL⟩ (fun i H2 _ h2 => SqL.of (h2.2 _ _ e1)) ?_ ?_
    · rintro i v H2 hv ⟨eL, s2⟩
      obtain ⟨z, rfl, hz⟩ := str_at hv
      have hil : i < (Txt.split x ⟨[10].toArray⟩).length := (List.getElem?_eq_some_iff.mp hz).1
      have zl := split_mem x (y := [10]) (by simp) (by decide) (List.mem_of_getElem? hz)
      have fin : ∃ acc, H2 L = some (.lst acc) ∧ acc.length < sizeLine ∧ ((upd H2 L (.lst (acc ++ [V.str (emptied isMark z)]))) L = some (.lst ((((Txt.split x ⟨[10].toArray⟩).take (i + 1)).map (emptied isMark)).map V.str)) ∧ Same H1 (upd H2 L (.lst (acc ++ [V.str (emptied isMark z)])))) := by
        refine ⟨_, eL, by rw [List.length_map, List.length_map, List.length_take, sizeLine_eq]; omega, ?_, fun b o e => ?_⟩
        · rw [upd_same, take_map _ hz, List.map_append]
          rfl
        · rw [upd_ne (ne_of_none e nL)]
          exact s2 b o e
      refine ⟨rfl, .str z, rfl, z, rfl, by omega, _, rfl, ?_⟩
      unfold emptied at fin
      cases hm : isMark (tl z) with
      | true =>
        rw [hm] at fin
        exact iteT fin
      | false =>
        rw [hm] at fin
        exact iteF ⟨.str z, rfl, fin⟩
    · rintro H2 ⟨eL, s2⟩
      rw [List.length_map, List.take_length] at eL
      refine ⟨⟨[10].toArray⟩, L, (Txt.split x ⟨[10].toArray⟩).map (emptied isMark), rfl, rfl, .inl (SqL.of eL), emptied_sizes isMark x hx, ?_⟩
      rw [emptied_join]
      exact k _ (s1.trans s2)
def sp_blanks_emptied : Sp := fun vs H Q _ => ∃ x : Str, vs = [.str x] ∧ x.length ≤ 1000000 ∧ ∀ H', Same H H' → Q (.str ⟨(blanksOf (tl x)).toArray⟩) H'
theorem ok_blanks_emptied {f : Addr} {fd : FuncData} {dvs : List V} (F : Fn K "blanks_emptied" s_blanks_emptied dvs f fd) (O_is_blank : Own P w K mg base "is_blank" 1 ["line"] [] (sp_is_blank)) : FnOk P w K mg base CX0 2 f fd ["got"] (sp_blanks_emptied) := by
  refine Fn.okN F sc_blanks_emptied (fun vs H Q E h => ?_) (fun cdv A outer s H vs Q E hr h => ?_)
  · obtain ⟨_, rfl, _⟩ := h
    rfl
  · obtain ⟨x, rfl, hx, k⟩ := h
    refine ⟨_, (pss_one (ps_ret (pe_m1 PySem.F.slot_str_join PySem.F.type_str_join mt_join pe_str (pe_lc (own := [("line", 1)]) (g := gName 1) (tt := tYes) (by rfl) sc_blanks_emptied.nd (pi_list (pe_m1 PySem.F.slot_str_split PySem.F.type_str_split mt_split (pv 0) pe_str)) (blkOk_by (own := [("line", 1)]) (N := ["got", "line"]) (sc := defScope s_blanks_emptied) (by decide +kernel)) (fun _ _ _ _ _ => (pg_name (i := 1) sc_blanks_emptied.nd rfl (.inl rfl))) (fun _ _ _ _ _ => pts_nil) (fun _ _ _ _ _ => (pe_ifExp (pt_val (pe_own O_is_blank (hr.mono (by decide)) (by rfl) (pa_cons (pv 1) pa_nil))) pe_str (pv 1))))))), ?_⟩
    have s := split_sizes x (y := [10]) (by simp) (by decide)
    refine ⟨⟨_, rfl⟩, .str x, rfl, ⟨_, rfl⟩, x, "\n", rfl, rfl, by decide +kernel, by rw [sizeLine_eq]; omega, fun p np => ⟨p, rfl, ⟨_, SqL.of upd_same⟩, fun L nL => ?_⟩⟩
    rw [nl_eq] at nL ⊢
    have s1 := same_new (o := .lst ((Txt.split x ⟨[10].toArray⟩).map V.str)) np
    have e1 : (upd H p (.lst ((Txt.split x ⟨[10].toArray⟩).map V.str))) p = some (.lst ((Txt.split x ⟨[10].toArray⟩).map V.str)) := upd_same
    generalize upd H p (.lst ((Txt.split x ⟨[10].toArray⟩).map V.str)) = H1 at nL s1 e1 ⊢
    have pL : p ≠ L := ne_of_none e1 nL
    refine lc_list (K := K) (a := p) (xs := (Txt.split x ⟨[10].toArray⟩).map V.str) (fun i H2 => H2 L = some (.lst ((((Txt.split x ⟨[10].toArray⟩).take i).map (emptied isBlank)).map V.str)) ∧ Same H1 H2)
      ⟨upd_same, same_new nL⟩ (fun i H2 _ h2 => SqL.of (h2.2 _ _ e1)) ?_ ?_
    · rintro i v H2 hv ⟨eL, s2⟩
      obtain ⟨z, rfl, hz⟩ := str_at hv
      have hil : i < (Txt.split x ⟨[10].toArray⟩).length := (List.getElem?_eq_some_iff.mp hz).1
      have zl := split_mem x (y := [10]) (by simp) (by decide) (List.mem_of_getElem? hz)
      have fin : ∃ acc, H2 L = some (.lst acc) ∧ acc.length < sizeLine ∧ ((upd H2 L (.lst (acc ++ [V.str (emptied isBlank z)]))) L = some (.lst ((((Txt.split x ⟨[10].toArray⟩).take (i + 1)).map (emptied isBlank)).map V.str)) ∧ Same H1 (upd H2 L (.lst (acc ++ [V.str (emptied isBlank z)])))) := by
        refine ⟨_, eL, by rw [List.length_map, List.length_map, List.length_take, sizeLine_eq]; omega, ?_, fun b o e => ?_⟩
        · rw [upd_same, take_map _ hz, List.map_append]
          rfl
        · rw [upd_ne (ne_of_none e nL)]
          exact s2 b o e
      refine ⟨rfl, .str z, rfl, z, rfl, by omega, _, rfl, ?_⟩
      unfold emptied at fin
      cases hm : isBlank (tl z) with
      | true =>
        rw [hm] at fin
        exact iteT fin
      | false =>
        rw [hm] at fin
        exact iteF ⟨.str z, rfl, fin⟩
    · rintro H2 ⟨eL, s2⟩
      rw [List.length_map, List.take_length] at eL
      refine ⟨⟨[10].toArray⟩, L, (Txt.split x ⟨[10].toArray⟩).map (emptied isBlank), rfl, rfl, .inl (SqL.of eL), emptied_sizes isBlank x hx, ?_⟩
      rw [emptied_join]
      exact k _ (s1.trans s2)
end

/-! ### pieces in a text -/
theorem pre_len {S l : List Nat} (h : pre S l = true) : S.length ≤ l.length := by
  have e : l.take S.length = S := eq_of_beq h
  have e2 := congrArg List.length e
  rw [List.length_take] at e2
  omega
theorem starts_any (x y : Str) : Txt.startswith x y = pre (tl y) (tl x) := by
  unfold Txt.startswith
  rw [Nat.zero_add, StrLaws.subAt_eq, List.drop_zero, len_tl y, len_tl x]
  show (decide ((tl y).length ≤ (tl x).length) && pre (tl y) (tl x)) = pre (tl y) (tl x)
  cases h : pre (tl y) (tl x) with
  | false => rw [Bool.and_false]
  | true => rw [decide_eq_true (pre_len h)]; rfl
theorem ends_any (x y : Str) : Txt.endswith x y = ends (tl y) (tl x) := by
  unfold Txt.endswith ends
  rw [Nat.zero_add, StrLaws.subAt_eq, len_tl y, len_tl x]
  rfl
theorem cut_inner (f z : V) (xs : List V) : cutV (f :: (xs ++ [z])) (some 1) (some (-1)) = xs := by
  unfold cutV
  have hl : (f :: (xs ++ [z])).length = xs.length + 2 := by simp
  have e1 : HT.sIx (f :: (xs ++ [z])).length 0 (some 1) = 1 := by
    rw [show HT.sIx (f :: (xs ++ [z])).length 0 (some 1) = min 1 (f :: (xs ++ [z])).length from HT.sIx_nat _ 0 1, hl]
    omega
  have e2 : HT.sIx (f :: (xs ++ [z])).length (f :: (xs ++ [z])).length (some (-1)) = xs.length + 1 := by
    show (if (-1 : Int) < 0 then ((-1 : Int) + ((f :: (xs ++ [z])).length : Int)).toNat else min (-1 : Int).toNat (f :: (xs ++ [z])).length) = xs.length + 1
    rw [if_pos (by decide), hl]
    omega
  rw [e1, e2]
  show (xs ++ [z]).take (xs.length + 1 - 1) = xs
  rw [Nat.add_sub_cancel, List.take_left]
theorem at_end (f z : V) (xs : List V) : atI (f :: (xs ++ [z])) (-1) = some z := atI_last (f :: xs) z
/-- what a search for pieces gives -/
def reach (g : List Nat) (e : Nat) : Option Nat → Bool
  | none => false
  | some a => decide (a ≤ e)
section
variable {P : Program} {w : World} {K : PySem.W.Frag} {mg : Str → Option Value} {base : Heap}
def sp_has_pieces : Sp := fun vs H Q _ => ∃ (p : Addr) (f : Str) (inner : List Str) (z g : Str), vs = [.ref p, .str g] ∧ H p = some (.lst ((f :: (inner ++ [z])).map V.str)) ∧ f.length ≤ 1000000 ∧ z.length ≤ 1000000 ∧ g.length ≤ 1000000 ∧ (∀ y ∈ inner, y.length ≤ 1000000) ∧
  ∀ H', Same H H' → Q (.bl (inOrder (tl f) (inner.map tl) (tl z) (tl g))) H'
theorem ok_has_pieces {f : Addr} {fd : FuncData} {dvs : List V} (F : Fn K "has_pieces" s_has_pieces dvs f fd) (m_len : mg "len" = none) : FnOk P w K mg base CX0 1 f fd ["pieces", "got"] (sp_has_pieces) := by
  refine Fn.okN F sc_has_pieces (fun vs H Q E h => ?_) (fun cdv A outer s H vs Q E hr h => ?_)
  · obtain ⟨_, _, _, _, _, rfl, _⟩ := h
    rfl
  · obtain ⟨p, f, inner, z, g, rfl, hp, lf, lz, lg, li, k⟩ := h
    refine ⟨_, (pss_cons (ps_if (PW.pt (pw_or (pt_not (pt_val (pe_m1 PySem.F.slot_str_startswith PySem.F.type_str_startswith mt_startswith (pv 1) (pe_ix ix_list (pv 0) pe_int (fun _ _ => rfl))))) (pw_or1 (pt_not (pt_val (pe_m1 PySem.F.slot_str_endswith PySem.F.type_str_endswith mt_endswith (pv 1) (pe_ix ix_list (pv 0) (pe_un un_neg pe_int) (fun _ _ => rfl))))))))
          (pss_one (ps_ret pe_bl))
          pss_nil)
      (pss_cons (ps_set (i := 2) sc_has_pieces.nd rfl (.inl rfl) (pe_callB call_len_str (by rfl) m_len PySem.boot_len (pa_cons (pe_ix ix_list (pv 0) pe_int (fun _ _ => rfl)) pa_nil)))
      (pss_cons (ps_set (i := 3) sc_has_pieces.nd rfl (.inl rfl) (pe_op op_sub (pe_callB call_len_str (by rfl) m_len PySem.boot_len (pa_cons (pv 1) pa_nil)) (pe_callB call_len_str (by rfl) m_len PySem.boot_len (pa_cons (pe_ix ix_list (pv 0) (pe_un un_neg pe_int) (fun _ _ => rfl)) pa_nil))))
      (pss_cons (ps_for PassesOwn.never rfl (pi_list (pe_slice sl_list (pv 0) (po_some pe_int) (po_some (pe_un un_neg pe_int)))) (pg_name (i := 4) sc_has_pieces.nd rfl (.inl rfl))
          (pss_cons (ps_set (i := 2) sc_has_pieces.nd rfl (.inl rfl) (pe_bm PySem.F.plainAttrs_str PySem.F.slot_str_find PySem.F.type_str_find mt_find4 (pv 1) (pa_cons (pv 4) (pa_cons (pv 2) (pa_cons (pv 3) pa_nil)))))
            (pss_cons (ps_if (pt_cmpR op_lt (pv 2) pe_int (nomark _))
                (pss_one (ps_ret pe_bl))
                pss_nil)
            (pss_one (ps_set (i := 2) sc_has_pieces.nd rfl (.inl rfl) (pe_op op_add (pv 2) (pe_callB call_len_str (by rfl) m_len PySem.boot_len (pa_cons (pv 4) pa_nil))))))))
      (pss_one (ps_ret (pe_cmpR op_le (pv 2) (pv 3) (nomark _)))))))), ?_⟩
    have hp0 : (f :: (inner ++ [z])).map V.str = V.str f :: (inner.map V.str ++ [V.str z]) := by simp
    rw [hp0] at hp
    have hend := at_end (V.str f) (V.str z) (inner.map V.str)
    have out : pre (tl f) (tl g) = false ∨ ends (tl z) (tl g) = false → Q (.bl false) H := fun h => by
      have k0 := k H fun _ _ e => e
      unfold inOrder at k0
      rcases h with h | h
      · rw [h] at k0
        exact k0
      · rw [h, Bool.false_and, Bool.and_false] at k0
        exact k0
    refine ⟨.str g, rfl, ⟨_, rfl⟩, .ref p, rfl, p, _, 0, .str f, rfl, rfl, SqL.of hp, atI_nat (j := 0) rfl, g, f, rfl, rfl, _, rfl, ?_⟩
    rw [starts_any]
    cases h1 : pre (tl f) (tl g) with
    | false => exact iteT (iteT (out (.inl h1)))
    | true =>
    refine iteF ⟨.str g, rfl, ⟨_, rfl⟩, .ref p, rfl, 1, rfl, p, _, -1, .str z, rfl, rfl, SqL.of hp, hend, g, z, rfl, rfl, _, rfl, ?_⟩
    rw [ends_any]
    cases h2 : ends (tl z) (tl g) with
    | false => exact iteT (out (.inr h2))
    | true =>
    refine iteF ?_
    have hz : z.length ≤ g.length := by
      unfold ends at h2
      rw [Bool.and_eq_true, decide_eq_true_eq, ← len_tl, ← len_tl] at h2
      exact h2.1
    refine ⟨.ref p, rfl, p, _, 0, .str f, rfl, rfl, SqL.of hp, atI_nat (j := 0) rfl, f, rfl, line_of lf, ?_⟩
    refine ⟨.str g, rfl, g, rfl, line_of lg, .ref p, rfl, 1, rfl, p, _, -1, .str z, rfl, rfl, SqL.of hp, hend, z, rfl, line_of lz, _, _, rfl, rfl, ?_⟩
    have k' : ∀ H', Same H H' → Q (.bl (reach (tl g) (g.length - z.length) (chain (tl g) (g.length - z.length) (inner.map tl) f.length))) H' := fun H' s => by
      have k0 := k H' s
      unfold inOrder at k0
      rw [h1, h2, ← len_tl, ← len_tl, ← len_tl] at k0
      exact k0
    generalize hE : g.length - z.length = e at k'
    have le : e ≤ g.length := by omega
    have eend : (g.length : Int) - (z.length : Int) = (e : Int) := by omega
    refine ⟨.ref p, rfl, 1, rfl, 1, rfl, -1, rfl, p, _, rfl, SqL.of hp, fun L nL => ?_⟩
    rw [cut_inner]
    refine ⟨L, rfl, ⟨_, SqL.of upd_same⟩, ?_⟩
    have s1 := same_new (o := .lst (inner.map V.str)) nL
    have eL : (upd H L (.lst (inner.map V.str))) L = some (.lst (inner.map V.str)) := upd_same
    generalize upd H L (.lst (inner.map V.str)) = H1 at s1 eL ⊢
    refine for_list (K := K) (a := L) (xs := inner.map V.str) (fun i σ H2 => ∃ (a : Nat) (v4 : Option V), σ = [some (.ref p), some (.str g), some (.int (a : Int)), some (.int ((g.length : Int) - (z.length : Int))), v4] ∧ H2 = H1 ∧ chain (tl g) e ((inner.map tl).take i) f.length = some a ∧ a ≤ 2000000 + e) ⟨f.length, none, rfl, rfl, rfl, by omega⟩ (fun i σ H2 _ h => by obtain ⟨_, _, _, rfl, _⟩ := h; exact SqL.of eL) ?_ ?_
    · rintro i v σ H2 hv ⟨a, v4, rfl, rfl, hc, ha⟩
      obtain ⟨y, rfl, hy⟩ := str_at hv
      have ly := li y (List.mem_of_getElem? hy)
      have et : (inner.map tl).take (i + 1) = (inner.map tl).take i ++ [tl y] := by rw [List.take_add_one, List.getElem?_map, hy]; rfl
      refine ⟨.str g, rfl, rfl, .str y, rfl, _, rfl, _, rfl, g, y, (a : Int), (g.length : Int) - (z.length : Int), rfl, rfl, ?_⟩
      rw [eend]
      have none_out : firstFrom (fitsAt (tl y) (tl g) e) (e + 1 - a) a = none → Q (.bl false) H2 := fun h => by
        have k0 := k' H2 s1
        have es : inner.map tl = (inner.map tl).take (i + 1) ++ (inner.map tl).drop (i + 1) := (List.take_append_drop _ _).symm
        rw [es, chain_app, et, chain_app, hc] at k0
        have c1 : chain (tl g) e [tl y] a = none := by
          unfold chain
          rw [h]
        simp only [Option.bind_some, c1, Option.bind_none] at k0
        exact k0
      by_cases hal : a ≤ g.length
      · rw [find_first g y a e le hal]
        cases hf : firstFrom (fitsAt (tl y) (tl g) e) (e + 1 - a) a with
        | none => exact ⟨_, rfl, _, _, rfl, rfl, _, rfl, iteT (none_out hf)⟩
        | some j =>
          have hj : (fitsAt (tl y) (tl g) e j) = true := (firstFrom_some hf).2.2.1
          unfold fitsAt at hj
          rw [Bool.and_eq_true, decide_eq_true_eq, ← len_tl] at hj
          refine ⟨_, rfl, _, _, rfl, rfl, _, rfl, ?_⟩
          rw [decide_eq_false (show ¬ ((j : Int) < 0) by omega)]
          refine iteF ⟨_, rfl, .str y, rfl, y, rfl, line_of ly, _, _, rfl, rfl, j + y.length, some (.str y), ?_, rfl, ?_, by omega⟩
          · show [some (V.ref p), some (V.str g), some (V.int ((j : Int) + (y.length : Int))), some (V.int (e : Int)), some (V.str y)] = _
            rw [show ((j : Int) + (y.length : Int)) = ((j + y.length : Nat) : Int) by omega]
          · rw [et, chain_app, hc]
            show chain (tl g) e [tl y] a = some (j + y.length)
            unfold chain
            rw [hf, ← len_tl]
            rfl
      · -- beyond the text nothing is found
        have hn : firstFrom (fitsAt (tl y) (tl g) e) (e + 1 - a) a = none := firstFrom_no fun i h1 h2 => by omega
        have e0 : Txt.findIn g y (a : Int) (e : Int) = -1 := by
          unfold Txt.findIn
          have e1 : fromIndex g.length (a : Int) = a := by
            unfold fromIndex
            rw [if_neg (by omega)]
            omega
          have e2 : toIndexW g.length (e : Int) = e := by
            unfold toIndexW
            rw [if_neg (by omega)]
            omega
          rw [e1, e2]
          rcases occ_within g y a e with ⟨h0, _⟩ | ⟨i, r, h0, q1, q2, _⟩
          · rw [h0]
          · have := q2.1
            omega
        rw [e0]
        exact ⟨_, rfl, _, _, rfl, rfl, _, rfl, iteT (none_out hn)⟩
    · rintro σ H2 ⟨a, v4, rfl, rfl, hc, ha⟩
      have k0 := k' H2 s1
      rw [List.length_map, show (inner.map tl).take inner.length = inner.map tl from List.take_of_length_le (by rw [List.length_map]; exact Nat.le_refl _)] at hc
      rw [hc] at k0
      refine ⟨_, rfl, _, rfl, _, _, rfl, rfl, ?_⟩
      rw [eend]
      show Q (.bl (decide ((a : Int) ≤ (e : Int)))) H2
      rw [show decide ((a : Int) ≤ (e : Int)) = decide (a ≤ e) by
        rw [Bool.eq_iff_iff, decide_eq_true_eq, decide_eq_true_eq]
        omega]
      exact k0
end

/-! ### lets_by and check -/
theorem seqA_of {K : PySem.W.Frag} {H H' : Hp} {a : Addr} {xs : List V} (e : Same H H') (h : SqA K H a xs) : SqA K H' a xs := by
  rcases h with h | h
  · exact .inl (e.seq h)
  · refine .inr ?_
    rcases h with h | h
    · rcases h with h | ⟨o, h⟩
      · exact .inl (.inl (e _ _ h))
      · exact .inl (.inr ⟨o, e _ _ h⟩)
    · exact .inr h
theorem tl_arr (l : List Nat) : tl ⟨l.toArray⟩ = l := rfl
theorem len_arr (l : List Nat) : (⟨l.toArray⟩ : Str).length = l.length := by rw [len_tl]
section
variable {P : Program} {w : World} {K : PySem.W.Frag} {mg : Str → Option Value} {base : Heap}
def sp_lets_by (K : PySem.W.Frag) : Sp := fun vs H Q _ => ∃ (x y : Str) (p : Addr) (xs : List Str), vs = [.str x, .str y, .ref p] ∧ x.length ≤ 1000000 ∧ y.length ≤ 1000000 ∧ SqA K H p (xs.map V.str) ∧ has "NORMALIZE_WHITESPACE" xs = false ∧ ∀ H', Same H H' → Q (.bl (letsF (tl x) (tl y) xs)) H'
theorem ok_lets_by {f : Addr} {fd : FuncData} {dvs : List V} (F : Fn K "lets_by" s_lets_by dvs f fd) (O_marks_emptied : Own P w K mg base "marks_emptied" 3 ["want"] [] (sp_marks_emptied)) (O_blanks_emptied : Own P w K mg base "blanks_emptied" 2 ["got"] [] (sp_blanks_emptied)) (O_has_pieces : Own P w K mg base "has_pieces" 1 ["pieces", "got"] [] (sp_has_pieces)) {t_DOTS : Tok} (c_DOTS : mg "DOTS" = some (.str "..." t_DOTS)) {t_ELLIPSIS : Tok} (c_ELLIPSIS : mg "ELLIPSIS" = some (.str "ELLIPSIS" t_ELLIPSIS)) {t_NORMALIZE : Tok} (c_NORMALIZE : mg "NORMALIZE" = some (.str "NORMALIZE_WHITESPACE" t_NORMALIZE)) {t_NO_BLANKLINE : Tok} (c_NO_BLANKLINE : mg "NO_BLANKLINE" = some (.str "DONT_ACCEPT_BLANKLINE" t_NO_BLANKLINE)) {t_ONE_IS_NOT_TRUE : Tok} (c_ONE_IS_NOT_TRUE : mg "ONE_IS_NOT_TRUE" = some (.str "DONT_ACCEPT_TRUE_FOR_1" t_ONE_IS_NOT_TRUE)) {a_TRUTHS : Addr} {es_TRUTHS : Array DictEntry} {n_TRUTHS : Nat} (c_TRUTHS : mg "TRUTHS" = some (.ref a_TRUTHS)) (kd_TRUTHS : KDict K w a_TRUTHS es_TRUTHS n_TRUTHS) (g_TRUTHS : ∀ z : Str, ∃ r, PySem.W.nsIn K a_TRUTHS z = some r ∧ RelV (v_TRUTHS z) (r.getD .none)) : FnOk P w K mg base CX0 4 f fd ["want", "got", "flags"] (sp_lets_by K) := by
  refine Fn.okN F sc_lets_by (fun vs H Q E h => ?_) (fun cdv A outer s H vs Q E hr h => ?_)
  · obtain ⟨_, _, _, _, rfl, _⟩ := h
    rfl
  · obtain ⟨x, y, p, xs, rfl, lx, ly, hp, hno, k⟩ := h
    refine ⟨_, (pss_cons (ps_if (pt_cmpR op_eq (pv 0) (pv 1) (nomark _))
          (pss_one (ps_ret pe_bl))
          pss_nil)
      (pss_cut (ps_if (PW.pt (pw_and (pt_cmpR op_notIn_seq (pe_glob (v := .str "DONT_ACCEPT_TRUE_FOR_1") rfl c_ONE_IS_NOT_TRUE ⟨_, rfl⟩) (pv 2) rfl) (pw_and1 (pt_cmpR op_eq (pe_kget kd_TRUTHS (pe_glob (v := .ref a_TRUTHS) rfl c_TRUTHS rfl) (pv 0) ⟨rfl, rfl, rfl, rfl⟩) (pv 1) (nomark _)))))
          (pss_one (ps_ret pe_bl))
          pss_nil)
      (pss_cut (ps_if (pt_cmpR op_notIn_seq (pe_glob (v := .str "DONT_ACCEPT_BLANKLINE") rfl c_NO_BLANKLINE ⟨_, rfl⟩) (pv 2) rfl)
          (pss_cons (ps_set (i := 0) sc_lets_by.nd rfl (.inl rfl) (pe_own O_marks_emptied (hr.mono (by decide)) (by rfl) (pa_cons (pv 0) pa_nil)))
            (pss_one (ps_set (i := 1) sc_lets_by.nd rfl (.inl rfl) (pe_own O_blanks_emptied (hr.mono (by decide)) (by rfl) (pa_cons (pv 1) pa_nil)))))
          pss_nil)
      (pss_cut (ps_if (pt_cmpR op_in_seq (pe_glob (v := .str "NORMALIZE_WHITESPACE") rfl c_NORMALIZE ⟨_, rfl⟩) (pv 2) rfl) pss_never pss_nil)
      (pss_cons (ps_if (pt_cmpR op_eq (pv 0) (pv 1) (nomark _))
          (pss_one (ps_ret pe_bl))
          pss_nil)
      (pss_one (ps_ret (pe_and (pe_cmpR op_in_seq (pe_glob (v := .str "ELLIPSIS") rfl c_ELLIPSIS ⟨_, rfl⟩) (pv 2) rfl) (pe_and (pe_cmpR op_in_str (pe_glob (v := .str "...") rfl c_DOTS ⟨_, rfl⟩) (pv 0) rfl) (pe_one (pe_own O_has_pieces (hr.mono (by decide)) (by rfl) (pa_cons (pe_m1 PySem.F.slot_str_split PySem.F.type_str_split mt_split (pv 0) (pe_glob (v := .str "...") rfl c_DOTS ⟨_, rfl⟩)) (pa_cons (pv 1) pa_nil))))))))))))), ?_⟩
    have k0 : ∀ (H' : Hp) (b : Bool), Same H H' → letsF (tl x) (tl y) xs = b → Q (.bl b) H' := fun H' b s e => by rw [← e]; exact k H' s
    unfold letsF lets at k0
    -- equal texts
    refine ⟨.str x, rfl, .str y, rfl, rfl, _, rfl, ?_⟩
    rw [dec_strs]
    by_cases h1 : tl x = tl y
    · rw [decide_eq_true h1]
      exact iteT (k0 H true (fun _ _ e => e) (by rw [if_pos h1]))
    rw [decide_eq_false h1]
    rw [if_neg h1] at k0
    refine iteF ?_
    -- truths
    refine ⟨fun σ H1 => σ = [some (.str x), some (.str y), some (.ref p)] ∧ H1 = H ∧ (!has "DONT_ACCEPT_TRUE_FOR_1" xs && truth (tl x) (tl y)) = false, ?_, ?_⟩
    · obtain ⟨r, hr1, hr2⟩ := g_TRUTHS x
      refine ⟨.ref p, rfl, p, _, rfl, hp, rfl, flat_strs xs, _, rfl, ?_⟩
      rw [inV_str]
      cases ht : has "DONT_ACCEPT_TRUE_FOR_1" xs with
      | true => exact iteF (iteF ⟨rfl, rfl, rfl⟩)
      | false =>
        rw [ht] at k0
        refine iteT ⟨rfl, .str x, rfl, x, r, v_TRUTHS x, rfl, hr1, hr2, .str y, rfl, truth_scal x y, _, rfl, ?_⟩
        rw [truth_get]
        cases hc : truth (tl x) (tl y) with
        | true => exact iteT (k0 H true (fun _ _ e => e) (by rw [hc]; rfl))
        | false => exact iteF ⟨rfl, rfl, rfl⟩
    rintro σ1 H1 ⟨rfl, rfl, hc⟩
    rw [hc] at k0
    -- blank lines
    refine ⟨fun σ H2 => ∃ u v : Str, σ = [some (.str u), some (.str v), some (.ref p)] ∧ Same H1 H2 ∧ tl u = shownW (has "DONT_ACCEPT_BLANKLINE" xs) false (tl x) ∧ tl v = shownG (has "DONT_ACCEPT_BLANKLINE" xs) false (tl y), ?_, ?_⟩
    · refine ⟨.ref p, rfl, p, _, rfl, hp, rfl, flat_strs xs, _, rfl, ?_⟩
      rw [inV_str]
      cases hb : has "DONT_ACCEPT_BLANKLINE" xs with
      | true => exact iteF ⟨x, y, rfl, fun _ _ e => e, rfl, rfl⟩
      | false => exact iteT ⟨.str x, rfl, x, rfl, lx, fun H2 s2 => ⟨.str y, rfl, y, rfl, ly, fun H3 s3 => ⟨_, _, rfl, s2.trans s3, rfl, rfl⟩⟩⟩
    rintro σ2 H2 ⟨u, v, rfl, s2, hu, hv⟩
    have lu : u.length ≤ 1000000 := by
      rw [len_tl, hu]
      refine Nat.le_trans (shownW_len _ _ _) ?_
      rw [← len_tl]
      exact lx
    have lv : v.length ≤ 1000000 := by
      rw [len_tl, hv]
      refine Nat.le_trans (shownG_len _ _ _) ?_
      rw [← len_tl]
      exact ly
    -- words
    refine ⟨fun σ H3 => ∃ u v : Str, σ = [some (.str u), some (.str v), some (.ref p)] ∧ Same H1 H3 ∧ tl u = shownW (has "DONT_ACCEPT_BLANKLINE" xs) (has "NORMALIZE_WHITESPACE" xs) (tl x) ∧ tl v = shownG (has "DONT_ACCEPT_BLANKLINE" xs) (has "NORMALIZE_WHITESPACE" xs) (tl y), ?_, ?_⟩
    · refine ⟨.ref p, rfl, p, _, rfl, seqA_of s2 hp, rfl, flat_strs xs, _, rfl, ?_⟩
      rw [inV_str]
      rw [hno]
      exact iteF ⟨u, v, rfl, s2, hu, hv⟩
    rintro σ3 H3 ⟨u, v, rfl, s3, hu, hv⟩
    have lu : u.length ≤ 1000000 := by
      rw [len_tl, hu]
      refine Nat.le_trans (shownW_len _ _ _) ?_
      rw [← len_tl]
      exact lx
    have lv : v.length ≤ 1000000 := by
      rw [len_tl, hv]
      refine Nat.le_trans (shownG_len _ _ _) ?_
      rw [← len_tl]
      exact ly
    rw [← hu, ← hv, if_neg Bool.false_ne_true] at k0
    -- equal now
    refine ⟨.str u, rfl, .str v, rfl, rfl, _, rfl, ?_⟩
    rw [dec_strs]
    by_cases h2 : tl u = tl v
    · rw [decide_eq_true h2]
      exact iteT (k0 H3 true s3 (by rw [if_pos h2]))
    rw [decide_eq_false h2]
    rw [if_neg h2] at k0
    refine iteF ?_
    -- ellipses
    refine ⟨.ref p, rfl, p, _, rfl, seqA_of s3 hp, rfl, flat_strs xs, _, rfl, ?_⟩
    rw [inV_str]
    cases he : has "ELLIPSIS" xs with
    | false => exact iteF (k0 H3 false s3 (by rw [he]; rfl))
    | true =>
      rw [he] at k0
      refine iteT ⟨.str u, rfl, "...", u, rfl, rfl, _, rfl, ?_⟩
      rw [dt_eq, dots_in]
      by_cases h3 : 1 < (spl DT 0 [] (tl u)).length
      · rw [decide_eq_true h3]
        have es := splitOf u (y := DT) (by decide) (by decide)
        have h4 : 1 < (Txt.split u ⟨DT.toArray⟩).length := by
          rw [← es, List.length_map] at h3
          exact h3
        obtain ⟨f, inner, z, e3⟩ := three_parts h4
        have sm : ∀ y ∈ Txt.split u ⟨DT.toArray⟩, y.length ≤ 1000000 := fun y hy => Nat.le_trans (split_mem u (by decide) (by decide) hy) lu
        have e5 : byPieces (tl u) (tl v) = inOrder (tl f) (inner.map tl) (tl z) (tl v) := byPieces_parts (by rw [← es, e3])
        rw [e3] at sm
        refine iteT ⟨.str u, rfl, ⟨_, rfl⟩, u, ⟨DT.toArray⟩, rfl, rfl, by decide, by rw [sizeLine_eq]; omega, fun L nL => ?_⟩
        rw [e3]
        refine ⟨.str v, rfl, L, f, inner, z, v, rfl, upd_same, sm f (by simp), sm z (by simp), lv, fun y hy => sm y (by simp [hy]), fun H4 s4 => ?_⟩
        exact k0 H4 _ (s3.trans ((same_new nL).trans s4)) (by rw [e5]; rfl)
      · rw [decide_eq_false h3]
        exact iteF (k0 H3 false s3 (by rw [byPieces_one h3]; rfl))
def sp_check (K : PySem.W.Frag) : Sp := fun vs H Q _ => ∃ (x y : Str) (p : Addr) (xs : List Str), vs = [.str x, .str y, .ref p] ∧ x.length ≤ 1000000 ∧ y.length ≤ 1000000 ∧ SqA K H p (xs.map V.str) ∧ (∀ z ∈ xs, has z v_FLAGS = true) ∧ has "NORMALIZE_WHITESPACE" xs = false ∧ ∀ H', Same H H' → Q (.bl (letsF (tl x) (tl y) xs)) H'
end

/-! ### the mathematics of texts moved in and marked -/
def SP4 : List Nat := [32, 32, 32, 32]
def ind (y : List Nat) : List Nat := if y.isEmpty = true then [] else SP4 ++ y
def mov : Bool → List Nat → List Nat
  | _, [] => []
  | b, c :: r => (if (b && !(c == 10)) = true then SP4 else []) ++ c :: mov (c == 10) r
theorem pre_one (c d : Nat) (r : List Nat) : pre [c] (d :: r) = (d == c) := by
  show ([d] == [c]) = _
  rw [Bool.eq_iff_iff]
  simp
theorem joinL_cons (S a : List Nat) {ps : List (List Nat)} (h : ps ≠ []) : joinL S (a :: ps) = a ++ (S ++ joinL S ps) := by
  cases ps with
  | nil => exact absurd rfl h
  | cons b r => rfl
theorem ind_mov : ∀ (l a : List Nat), joinL [10] ((spl [10] 0 a l).map ind) = ind a ++ mov a.isEmpty l
  | [], a => by
    show ind a = ind a ++ []
    rw [List.append_nil]
  | c :: r, a => by
    unfold spl
    rw [pre_one]
    unfold mov
    cases h : (c == 10) with
    | true =>
      show joinL [10] (ind a :: (spl [10] 0 [] r).map ind) = _
      have hc : c = 10 := eq_of_beq h
      rw [joinL_cons _ _ (by intro e; exact spl_ne [10] 0 [] r (List.map_eq_nil_iff.mp e)), ind_mov r [], hc]
      cases a.isEmpty <;> rfl
    | false =>
      show joinL [10] ((spl [10] 0 (a ++ [c]) r).map ind) = _
      rw [ind_mov r (a ++ [c])]
      cases a with
      | nil => rfl
      | cons x t =>
        show SP4 ++ (x :: (t ++ [c])) ++ mov false r = SP4 ++ (x :: t) ++ ([] ++ c :: mov false r)
        simp
def movst (s : List Nat × Bool) (c : Nat) : List Nat × Bool := (s.1 ++ (if (s.2 && !(c == 10)) = true then SP4 else []) ++ [c], c == 10)
theorem mov_fold : ∀ (l acc : List Nat) (b : Bool), (l.foldl movst (acc, b)).1 = acc ++ mov b l
  | [], acc, b => by
    show acc = acc ++ []
    rw [List.append_nil]
  | c :: r, acc, b => by
    rw [List.foldl_cons]
    show (r.foldl movst (acc ++ (if (b && !(c == 10)) = true then SP4 else []) ++ [c], c == 10)).1 = acc ++ ((if (b && !(c == 10)) = true then SP4 else []) ++ c :: mov (c == 10) r)
    rw [mov_fold r, List.append_assoc, List.append_assoc]
    rfl
theorem mov_len : ∀ (l : List Nat) (b : Bool), (mov b l).length ≤ 5 * l.length
  | [], _ => Nat.zero_le _
  | c :: r, b => by
    have ih := mov_len r (c == 10)
    unfold mov
    rw [List.length_append, List.length_cons, List.length_cons]
    have : (if (b && !(c == 10)) = true then SP4 else []).length ≤ 4 := by
      cases (b && !(c == 10)) <;> decide
    omega
def bare (y : List Nat) : Bool := y.all fun c => c == 32
def mkl (y : List Nat) : List Nat := if bare y = true then MK else y
def markI : List (List Nat) → List (List Nat)
  | [] => []
  | [p] => [p]
  | p :: q :: r => mkl p :: markI (q :: r)
theorem markI_ne : ∀ {ps : List (List Nat)}, ps ≠ [] → markI ps ≠ []
  | [], h => absurd rfl h
  | [p], _ => by simp [markI]
  | p :: q :: r, _ => by simp [markI]
theorem markI_cons (p : List Nat) {ps : List (List Nat)} (h : ps ≠ []) : markI (p :: ps) = mkl p :: markI ps := by
  cases ps with
  | nil => exact absurd rfl h
  | cons b r => rfl
theorem markI_last : ∀ (ps : List (List Nat)) (z : List Nat), markI (ps ++ [z]) = ps.map mkl ++ [z]
  | [], z => rfl
  | p :: r, z => by
    show markI (p :: (r ++ [z])) = mkl p :: (r.map mkl ++ [z])
    rw [markI_cons p (by simp), markI_last r z]
def mkd : List Nat → List Nat → List Nat
  | a, [] => a
  | a, c :: r => if (c == 10) = true then mkl a ++ 10 :: mkd [] r else mkd (a ++ [c]) r
theorem mark_mkd : ∀ (l a : List Nat), joinL [10] (markI (spl [10] 0 a l)) = mkd a l
  | [], a => rfl
  | c :: r, a => by
    unfold spl mkd
    rw [pre_one]
    cases (c == 10) with
    | true =>
      show joinL [10] (markI (a :: spl [10] 0 [] r)) = mkl a ++ 10 :: mkd [] r
      rw [markI_cons a (spl_ne [10] 0 [] r), joinL_cons _ _ (markI_ne (spl_ne [10] 0 [] r)), mark_mkd r []]
      rfl
    | false => exact mark_mkd r (a ++ [c])
def mkst (s : List Nat × List Nat) (c : Nat) : List Nat × List Nat := if (c == 10) = true then (s.1 ++ (mkl s.2 ++ [10]), []) else (s.1, s.2 ++ [c])
theorem mkd_fold : ∀ (l f a : List Nat), (l.foldl mkst (f, a)).1 ++ (l.foldl mkst (f, a)).2 = f ++ mkd a l
  | [], f, a => rfl
  | c :: r, f, a => by
    rw [List.foldl_cons]
    unfold mkst mkd
    cases (c == 10) with
    | true =>
      show (r.foldl mkst (f ++ (mkl a ++ [10]), [])).1 ++ (r.foldl mkst (f ++ (mkl a ++ [10]), [])).2 = f ++ (mkl a ++ 10 :: mkd [] r)
      rw [mkd_fold r]
      simp
    | false => exact mkd_fold r f (a ++ [c])
theorem mkl_len (y : List Nat) : (mkl y).length ≤ y.length + 11 := by
  unfold mkl
  cases bare y with
  | true =>
    show 11 ≤ _
    omega
  | false =>
    show y.length ≤ _
    omega
theorem mkst_len : ∀ (l : List Nat) (s : List Nat × List Nat), (l.foldl mkst s).1.length + (l.foldl mkst s).2.length ≤ s.1.length + s.2.length + 12 * l.length
  | [], s => Nat.le_refl _
  | c :: r, s => by
    have ih := mkst_len r (mkst s c)
    rw [List.foldl_cons, List.length_cons]
    refine Nat.le_trans ih ?_
    unfold mkst
    cases (c == 10) with
    | true =>
      have := mkl_len s.2
      show (s.1 ++ (mkl s.2 ++ [10])).length + 0 + _ ≤ _
      rw [List.length_append, List.length_append]
      show s.1.length + ((mkl s.2).length + 1) + 0 + _ ≤ _
      omega
    | false =>
      show s.1.length + (s.2 ++ [c]).length + _ ≤ _
      rw [List.length_append]
      show s.1.length + (s.2.length + 1) + _ ≤ _
      omega
theorem mkd_len (l : List Nat) : (mkd [] l).length ≤ 12 * l.length := by
  have e := mkd_fold l [] []
  have h := mkst_len l ([], [])
  rw [List.nil_append] at e
  rw [← e, List.length_append]
  have h' : (l.foldl mkst ([], [])).1.length + (l.foldl mkst ([], [])).2.length ≤ 0 + 0 + 12 * l.length := h
  omega
def toldL (h t : List Nat) : List Nat := if t.isEmpty = true then h ++ tl " nothing\n" else h ++ (tl ":\n" ++ mov true t)
theorem strip_sp (x : Str) : ((Txt.stripChars x ⟨#[32]⟩).length = 0) ↔ bare (tl x) = true := by
  unfold Txt.stripChars
  rw [strip_blank]
  unfold bare
  have e : (fun c => (#[32] : Array Nat).contains c) = fun c => (c == 32) := by
    funext c
    rw [Bool.eq_iff_iff, Array.contains_iff_mem]
    simp
  show (tl x).all (fun c => (#[32] : Array Nat).contains c) = true ↔ _
  rw [e]
theorem lenNe {x : Str} : (((x.length : Int) != 0)) = !(tl x).isEmpty := by
  rw [len_tl]
  cases tl x with
  | nil => rfl
  | cons a r =>
    rw [List.length_cons]
    show (((r.length + 1 : Nat) : Int) != 0) = true
    rw [bne_iff_ne]
    omega

/-! ### the program's own -/
def indS (z : Str) : Str := mk (ind (tl z))
theorem ind_len (y : List Nat) : (ind y).length ≤ y.length + 4 := by
  unfold ind
  cases h : y.isEmpty with
  | true => exact Nat.zero_le _
  | false =>
    show (SP4 ++ y).length ≤ _
    rw [List.length_append]
    show 4 + y.length ≤ _
    omega
theorem sp4_eq : tl ("    " : Str) = SP4 := by decide +kernel
theorem tl_nl : tl ("\n" : Str) = [10] := by decide +kernel
theorem tl_empty : tl ("" : Str) = [] := by decide +kernel
theorem len_nl : ("\n" : Str).length = 1 := by decide +kernel
theorem last_of {α : Type} : ∀ (l : List α), l ≠ [] → ∃ i z, l = i ++ [z]
  | [], h => absurd rfl h
  | [a], _ => ⟨[], a, rfl⟩
  | a :: b :: r, _ => by
    obtain ⟨i, z, e⟩ := last_of (b :: r) (by simp)
    exact ⟨a :: i, z, by rw [e]; rfl⟩
section
variable {P : Program} {w : World} {K : PySem.W.Frag} {mg : Str → Option Value} {base : Heap}
def sp_indented : Sp := fun vs H Q _ => ∃ x : Str, vs = [.str x] ∧ x.length ≤ 2000 ∧ ∀ (H' : Hp) (s : Str), Same H H' → tl s = mov true (tl x) → Q (.str s) H'
theorem ok_indented {f : Addr} {fd : FuncData} {dvs : List V} (F : Fn K "indented" s_indented dvs f fd) : FnOk P w K mg base CX0 1 f fd ["text"] (sp_indented) := by
  refine Fn.okN F sc_indented (fun vs H Q E h => ?_) (fun cdv A outer s H vs Q E hr h => ?_)
  · obtain ⟨_, rfl, _⟩ := h
    rfl
  · obtain ⟨x, rfl, hx, k⟩ := h
    refine ⟨_, (pss_one (ps_ret (pe_m1 PySem.F.slot_str_join PySem.F.type_str_join mt_join pe_str (pe_lc (own := [("line", 1)]) (g := gName 1) (tt := tYes) (by rfl) sc_indented.nd (pi_list (pe_m1 PySem.F.slot_str_split PySem.F.type_str_split mt_split (pv 0) pe_str)) (blkOk_by (own := [("line", 1)]) (N := ["text", "line"]) (sc := defScope s_indented) (by decide +kernel)) (fun _ _ _ _ _ => (pg_name (i := 1) sc_indented.nd rfl (.inl rfl))) (fun _ _ _ _ _ => pts_nil) (fun _ _ _ _ _ => (pe_ifExp (pt_tr (K' := K) (pv 1)) (pe_op op_add_str pe_str (pv 1)) pe_str)))))), ?_⟩
    have sz := split_sizes x (y := [10]) (by simp) (by decide)
    refine ⟨⟨_, rfl⟩, .str x, rfl, ⟨_, rfl⟩, x, "\n", rfl, rfl, by decide +kernel, by rw [sizeLine_eq]; omega, fun p np => ?_⟩
    rw [nl_eq]
    have s1 := same_new (o := .lst ((Txt.split x ⟨[10].toArray⟩).map V.str)) np
    have e1 : (upd H p (.lst ((Txt.split x ⟨[10].toArray⟩).map V.str))) p = some (.lst ((Txt.split x ⟨[10].toArray⟩).map V.str)) := upd_same
    generalize upd H p (.lst ((Txt.split x ⟨[10].toArray⟩).map V.str)) = H1 at s1 e1 ⊢
    refine ⟨p, rfl, ⟨_, SqL.of e1⟩, fun F nF => ?_⟩
    refine lc_list (K := K) (a := p) (xs := (Txt.split x ⟨[10].toArray⟩).map V.str) (fun i H2 => H2 F = some (.lst ((((Txt.split x ⟨[10].toArray⟩).take i).map indS).map V.str)) ∧ Same H1 H2) ⟨upd_same, same_new nF⟩ (fun i H2 _ h => SqL.of (h.2 _ _ e1)) ?_ ?_
    · rintro i v H2 hv ⟨eF, s2⟩
      obtain ⟨z, rfl, hz⟩ := str_at hv
      have hi : i < (Txt.split x ⟨[10].toArray⟩).length := (List.getElem?_eq_some_iff.mp hz).1
      have zl := split_mem x (y := [10]) (by simp) (by decide) (List.mem_of_getElem? hz)
      refine ⟨rfl, ?_⟩
      unfold tYes
      show ite (true = true) _ _
      rw [if_pos rfl]
      have fin : ∀ r : Str, r = indS z → ∃ acc, H2 F = some (.lst acc) ∧ acc.length < sizeLine ∧ (upd H2 F (.lst (acc ++ [V.str r]))) F = some (.lst ((((Txt.split x ⟨[10].toArray⟩).take (i + 1)).map indS).map V.str)) ∧ Same H1 (upd H2 F (.lst (acc ++ [V.str r]))) := by
        rintro r rfl
        refine ⟨_, eF, by rw [List.length_map, List.length_map, List.length_take, sizeLine_eq]; omega, ?_, fun b o e => ?_⟩
        · rw [upd_same, take_map _ hz, List.map_append]
          rfl
        · rw [upd_ne (ne_of_none e nF)]
          exact s2 _ _ e
      refine ⟨.str z, rfl, _, ⟨line_of (by omega), rfl⟩, ?_⟩
      rw [lenNe]
      cases h0 : (tl z).isEmpty with
      | true =>
        refine iteF (fin "" (ext_tl ?_))
        show tl "" = ind (tl z)
        unfold ind
        rw [h0, tl_empty]
        rfl
      | false =>
        refine iteT ⟨.str z, rfl, "    ", z, rfl, rfl, ?_, fin _ (ext_tl ?_)⟩
        · rw [show ("    " : Str).length = 4 from by decide +kernel, sizeLine_eq]
          omega
        · show tl ("    " ++ z) = ind (tl z)
          unfold ind
          rw [h0, tl_append, sp4_eq]
          rfl
    · rintro H2 ⟨eF, s2⟩
      rw [List.length_map, List.take_length] at eF
      have b1 := sum_len 2004 ((Txt.split x ⟨[10].toArray⟩).map indS) fun y hy => by
        obtain ⟨z, hz, rfl⟩ := List.mem_map.mp hy
        have zl := split_mem x (y := [10]) (by simp) (by decide) hz
        have := ind_len (tl z)
        rw [← len_tl] at this
        unfold indS
        rw [mk_len]
        omega
      rw [List.length_map] at b1
      refine ⟨⟨[10].toArray⟩, F, _, rfl, rfl, .inl (SqL.of eF), ?_, ?_⟩
      · rw [List.length_map]
        show _ + _ * 1 ≤ _
        omega
      · refine k H2 _ (s1.trans s2) ?_
        rw [join_eq, tl_join, List.map_map]
        show joinL [10] ((Txt.split x ⟨[10].toArray⟩).map (tl ∘ indS)) = _
        rw [show (tl ∘ indS) = ind ∘ tl from rfl, ← List.map_map, splitOf x (y := [10]) (by simp) (by decide), ind_mov]
        rfl
def sp_told : Sp := fun vs H Q _ => ∃ (h x : Str), vs = [.str h, .str x] ∧ h.length ≤ 100 ∧ x.length ≤ 2000 ∧ ∀ (H' : Hp) (s : Str), Same H H' → tl s = toldL (tl h) (tl x) → s.length ≤ 12000 → Q (.str s) H'
theorem ok_told {f : Addr} {fd : FuncData} {dvs : List V} (F : Fn K "told" s_told dvs f fd) (O_indented : Own P w K mg base "indented" 1 ["text"] [] (sp_indented)) : FnOk P w K mg base CX0 2 f fd ["head", "text"] (sp_told) := by
  refine Fn.okN F sc_told (fun vs H Q E h => ?_) (fun cdv A outer s H vs Q E hr h => ?_)
  · obtain ⟨_, _, rfl, _⟩ := h
    rfl
  · obtain ⟨h, x, rfl, hh, hx, k⟩ := h
    refine ⟨_, (pss_cons (ps_if (pt_not (pt_tr (K' := K) (pv 1)))
          (pss_one (ps_ret (pe_joined (PJ.cons (pe_fmt (pv 0)) (PJ.cons pe_str PJ.nil)))))
          pss_nil)
      (pss_one (ps_ret (pe_joined (PJ.cons (pe_fmt (pv 0)) (PJ.cons pe_str (PJ.cons (pe_fmt (pe_own O_indented (hr.mono (by decide)) (by rfl) (pa_cons (pv 1) pa_nil))) PJ.nil))))))), ?_⟩
    have l0 : Str.empty.length = 0 := rfl
    have l1 : (" nothing\n" : Str).length = 9 := by decide +kernel
    have l2 : (":\n" : Str).length = 2 := by decide +kernel
    have a1 := len_app Str.empty h
    have te : tl Str.empty = [] := rfl
    refine ⟨.str x, rfl, _, ⟨line_of (by omega), rfl⟩, ?_⟩
    rw [lenNe]
    unfold toldL at k
    cases e : (tl x).isEmpty with
    | true =>
      rw [e] at k
      have a2 := len_app (Str.empty ++ h) " nothing\n"
      refine iteT ⟨.str h, rfl, .inl ⟨h, rfl, line_of (by omega), h, rfl, line_of (by omega), " nothing\n", rfl, line_of (by omega), ?_⟩⟩
      exact k H _ (fun _ _ e => e) (by rw [tl_append, tl_append, te]; rfl) (by omega)
    | false =>
      rw [e] at k
      have a2 := len_app (Str.empty ++ h) ":\n"
      refine iteF ⟨.str h, rfl, .inl ⟨h, rfl, line_of (by omega), h, rfl, line_of (by omega), ":\n", rfl, line_of (by omega), .str x, rfl, x, rfl, hx, fun H1 s s1 es => ?_⟩⟩
      have ls : s.length ≤ 10000 := by
        rw [len_tl, es]
        have := mov_len (tl x) true
        rw [← len_tl] at this
        omega
      have a3 := len_app (Str.empty ++ h ++ ":\n") s
      refine .inl ⟨s, rfl, line_of (by omega), s, rfl, line_of (by omega), ?_⟩
      exact k H1 _ s1 (by rw [tl_append, tl_append, tl_append, te, es]; simp) (by omega)
def markS (z : Str) : Str := mk (mkl (tl z))
def sp_blanks_marked : Sp := fun vs H Q _ => ∃ x : Str, vs = [.str x] ∧ x.length ≤ 150 ∧ ∀ (H' : Hp) (s : Str), Same H H' → tl s = mkd [] (tl x) → Q (.str s) H'
theorem ok_blanks_marked {f : Addr} {fd : FuncData} {dvs : List V} (F : Fn K "blanks_marked" s_blanks_marked dvs f fd) {t_MARK_stages : Tok} (c_MARK_stages : mg "MARK_stages" = some (.str "<BLANKLINE>" t_MARK_stages)) : FnOk P w K mg base CX0 1 f fd ["got"] (sp_blanks_marked) := by
  refine Fn.okN F sc_blanks_marked (fun vs H Q E h => ?_) (fun cdv A outer s H vs Q E hr h => ?_)
  · obtain ⟨_, rfl, _⟩ := h
    rfl
  · obtain ⟨x, rfl, hx, k⟩ := h
    refine ⟨_, (pss_cons (ps_asg (pe_m1 PySem.F.slot_str_split PySem.F.type_str_split mt_split (pv 0) pe_str) (pg_star rfl (pgs_cons (pg_name (i := 1) sc_blanks_marked.nd rfl (.inl rfl)) (pgs_cons (pg_name (i := 2) sc_blanks_marked.nd rfl (.inl rfl)) pgs_nil))))
      (pss_one (ps_ret (pe_m1 PySem.F.slot_str_join PySem.F.type_str_join mt_join pe_str (pe_op op_cat (pe_lc (own := [("line", 3)]) (g := gName 3) (tt := tYes) (by rfl) sc_blanks_marked.nd (pi_list (pv 1)) (blkOk_by (own := [("line", 3)]) (N := ["got", "lines", "rest", "line"]) (sc := defScope s_blanks_marked) (by decide +kernel)) (fun _ _ _ _ _ => (pg_name (i := 3) sc_blanks_marked.nd rfl (.inl rfl))) (fun _ _ _ _ _ => pts_nil) (fun _ _ _ _ _ => (pe_ifExp (pt_tr (K' := K) (pe_m1 PySem.F.slot_str_strip PySem.F.type_str_strip mt_stripChars (pv 3) pe_str)) (pv 3) (pe_glob (v := .str "<BLANKLINE>") rfl c_MARK_stages ⟨_, rfl⟩)))) (pe_lst (pa_cons (pv 2) pa_nil))))))), ?_⟩
    have sz := split_sizes x (y := [10]) (by simp) (by decide)
    have e0 := splitOf x (y := [10]) (by simp) (by decide)
    obtain ⟨ini, fin, hs⟩ := last_of (Txt.split x ⟨[10].toArray⟩) (by
      intro e
      rw [e] at e0
      exact spl_ne [10] 0 [] (tl x) e0.symm)
    have zl : ∀ z ∈ ini, z.length ≤ 150 := fun z hz => Nat.le_trans (split_mem x (y := [10]) (by simp) (by decide) (by rw [hs]; exact List.mem_append_left _ hz)) hx
    have fl : fin.length ≤ 150 := Nat.le_trans (split_mem x (y := [10]) (by simp) (by decide) (by rw [hs]; simp)) hx
    have li : ini.length ≤ 150 := by
      have := sz.2
      rw [hs, List.length_append] at this
      have h1 : [fin].length = 1 := rfl
      omega
    refine ⟨.str x, rfl, ⟨_, rfl⟩, x, "\n", rfl, rfl, by decide +kernel, by rw [sizeLine_eq]; omega, fun p np => ?_⟩
    rw [nl_eq, hs]
    have s1 := same_new (o := .lst ((ini ++ [fin]).map V.str)) np
    have e1 : (upd H p (.lst ((ini ++ [fin]).map V.str))) p = some (.lst ((ini ++ [fin]).map V.str)) := upd_same
    generalize upd H p (.lst ((ini ++ [fin]).map V.str)) = H1 at s1 e1 ⊢
    rw [List.map_append] at e1
    refine ⟨p, ini.map V.str, .str fin, rfl, SqL.of e1, by rw [List.length_map]; omega, fun D nD => ?_⟩
    have s2 := same_new (o := .lst (ini.map V.str)) nD
    have e2 : (upd H1 D (.lst (ini.map V.str))) D = some (.lst (ini.map V.str)) := upd_same
    have s12 := s1.trans s2
    generalize upd H1 D (.lst (ini.map V.str)) = H2 at s12 e2 ⊢
    refine ⟨_, _, rfl, _, _, rfl, rfl, ?_⟩
    refine ⟨⟨_, rfl⟩, .ref D, rfl, D, rfl, ⟨_, SqL.of e2⟩, fun F nF => ?_⟩
    refine lc_list (K := K) (a := D) (xs := ini.map V.str) (fun i H3 => H3 F = some (.lst (((ini.take i).map markS).map V.str)) ∧ Same H2 H3) ⟨upd_same, same_new nF⟩ (fun i H3 _ h => SqL.of (h.2 _ _ e2)) ?_ ?_
    · rintro i v H3 hv ⟨eF, s3⟩
      obtain ⟨z, rfl, hz⟩ := str_at hv
      have hi : i < ini.length := (List.getElem?_eq_some_iff.mp hz).1
      have lz := zl z (List.mem_of_getElem? hz)
      refine ⟨rfl, ?_⟩
      unfold tYes
      show ite (true = true) _ _
      rw [if_pos rfl]
      have fin : ∀ r : Str, r = markS z → ∃ acc, H3 F = some (.lst acc) ∧ acc.length < sizeLine ∧ (upd H3 F (.lst (acc ++ [V.str r]))) F = some (.lst (((ini.take (i + 1)).map markS).map V.str)) ∧ Same H2 (upd H3 F (.lst (acc ++ [V.str r]))) := by
        rintro r rfl
        refine ⟨_, eF, by rw [List.length_map, List.length_map, List.length_take, sizeLine_eq]; omega, ?_, fun b o e => ?_⟩
        · rw [upd_same, take_map _ hz, List.map_append]
          rfl
        · rw [upd_ne (ne_of_none e nF)]
          exact s3 _ _ e
      refine ⟨.str z, rfl, ⟨_, rfl⟩, z, " ", rfl, rfl, line_of (by omega), _, ⟨Nat.le_trans (len_stripBy _ _ _ _) (line_of (by omega)), rfl⟩, ?_⟩
      have hb := strip_sp z
      rw [sp_eq]
      cases hbb : bare (tl z) with
      | true =>
        rw [show (((Txt.stripChars z ⟨[32].toArray⟩).length : Int) != 0) = false by rw [show (Txt.stripChars z ⟨[32].toArray⟩).length = 0 from hb.mpr hbb]; rfl]
        refine iteF (fin _ (ext_tl ?_))
        show tl "<BLANKLINE>" = mkl (tl z)
        unfold mkl
        rw [hbb, mk_eq]
        rfl
      | false =>
        have hne : (Txt.stripChars z ⟨[32].toArray⟩).length ≠ 0 := fun q => by
          rw [hb.mp q] at hbb
          cases hbb
        rw [show (((Txt.stripChars z ⟨[32].toArray⟩).length : Int) != 0) = true by
          rw [bne_iff_ne]
          omega]
        refine iteT ⟨.str z, rfl, fin z (ext_tl ?_)⟩
        show tl z = mkl (tl z)
        unfold mkl
        rw [hbb]
        rfl
    · rintro H3 ⟨eF, s3⟩
      rw [List.length_map, List.take_length] at eF
      refine ⟨.str fin, rfl, by show 1 ≤ sizeLine; decide, fun L nL => ?_⟩
      have s4 := same_new (o := .lst [.str fin]) nL
      have eL : (upd H3 L (.lst [.str fin])) L = some (.lst [.str fin]) := upd_same
      have eF4 := s4 _ _ eF
      have s24 := s3.trans s4
      generalize upd H3 L (.lst [.str fin]) = H4 at eL eF4 s24 ⊢
      refine ⟨F, L, _, _, rfl, rfl, eF4, eL, by rw [List.length_map, List.length_map, sizeLine_eq]; show _ + 1 ≤ _; omega, fun G nG => ?_⟩
      have s5 := same_new (o := .lst ((ini.map markS).map V.str ++ [V.str fin])) nG
      have b1 := sum_len 161 (ini.map markS ++ [fin]) fun y hy => by
        rcases List.mem_append.mp hy with h | h
        · obtain ⟨z, hz, rfl⟩ := List.mem_map.mp h
          have := mkl_len (tl z)
          rw [← len_tl] at this
          have := zl z hz
          unfold markS
          rw [mk_len]
          omega
        · rw [List.mem_singleton.mp h]
          omega
      have lb : (ini.map markS ++ [fin]).length ≤ 151 := by
        rw [List.length_append, List.length_map]
        show _ + 1 ≤ _
        omega
      refine ⟨⟨[10].toArray⟩, G, ini.map markS ++ [fin], rfl, rfl, .inl (SqL.of (by rw [upd_same, List.map_append]; rfl)), ?_, ?_⟩
      · show _ + _ * 1 ≤ _
        omega
      · refine k _ _ (s12.trans (s24.trans s5)) ?_
        rw [join_eq, tl_join, List.map_append, List.map_map]
        show joinL [10] (ini.map (tl ∘ markS) ++ [tl fin]) = _
        rw [show (tl ∘ markS) = mkl ∘ tl from rfl, ← List.map_map, ← markI_last]
        rw [show ini.map tl ++ [tl fin] = (ini ++ [fin]).map tl by rw [List.map_append]; rfl, ← hs, e0, mark_mkd]
def shownL (xs : List Str) (g : List Nat) : List Nat := if has "DONT_ACCEPT_BLANKLINE" xs = true then g else mkd [] g
def diffL (xs : List Str) (x g : List Nat) : List Nat := toldL (tl "Expected") x ++ toldL (tl "Got") (shownL xs g)
def sp_difference_text (K : PySem.W.Frag) : Sp := fun vs H Q _ => ∃ (x y : Str) (p : Addr) (xs : List Str), vs = [.str x, .str y, .ref p] ∧ x.length ≤ 150 ∧ y.length ≤ 150 ∧ SqA K H p (xs.map V.str) ∧ (∀ z ∈ xs, has z v_FLAGS = true) ∧ ∀ (H' : Hp) (s : Str), Same H H' → tl s = diffL xs (tl x) (tl y) → s.length ≤ 24000 → Q (.str s) H'
theorem ok_difference_text {f : Addr} {fd : FuncData} {dvs : List V} (F : Fn K "difference_text" s_difference_text dvs f fd) (O_require_flags0 : Own P w K mg base "require_flags" 2 ["flags"] [] (sp_require_flags0 K)) (O_blanks_marked : Own P w K mg base "blanks_marked" 1 ["got"] [] (sp_blanks_marked)) (O_told : Own P w K mg base "told" 2 ["head", "text"] [] (sp_told)) {t_NO_BLANKLINE : Tok} (c_NO_BLANKLINE : mg "NO_BLANKLINE" = some (.str "DONT_ACCEPT_BLANKLINE" t_NO_BLANKLINE)) : FnOk P w K mg base CX0 3 f fd ["want", "got", "flags"] (sp_difference_text K) := by
  refine Fn.okN F sc_difference_text (fun vs H Q E h => ?_) (fun cdv A outer s H vs Q E hr h => ?_)
  · obtain ⟨_, _, _, _, rfl, _⟩ := h
    rfl
  · obtain ⟨x, y, p, xs, rfl, lx, ly, hp, hf, k⟩ := h
    refine ⟨_, (pss_cons (ps_expr (pe_own O_require_flags0 (hr.mono (by decide)) (by rfl) (pa_cons (pv 2) pa_nil)))
      (pss_cut (ps_set (i := 3) sc_difference_text.nd rfl (.inl rfl) (pe_ifExp (pt_cmpR op_in_seq (pe_glob (v := .str "DONT_ACCEPT_BLANKLINE") rfl c_NO_BLANKLINE ⟨_, rfl⟩) (pv 2) rfl) (pv 1) (pe_own O_blanks_marked (hr.mono (by decide)) (by rfl) (pa_cons (pv 1) pa_nil))))
      (pss_one (ps_ret (pe_op op_add_str (pe_own O_told (hr.mono (by decide)) (by rfl) (pa_cons pe_str (pa_cons (pv 0) pa_nil))) (pe_own O_told (hr.mono (by decide)) (by rfl) (pa_cons pe_str (pa_cons (pv 3) pa_nil)))))))), ?_⟩
    refine ⟨.ref p, rfl, p, xs, rfl, hp, hf, ?_⟩
    refine ⟨fun σ H1 => ∃ sh : Str, σ = [some (.str x), some (.str y), some (.ref p), some (.str sh)] ∧ Same H H1 ∧ tl sh = shownL xs (tl y), ?_, ?_⟩
    · refine ⟨.ref p, rfl, p, _, rfl, hp, rfl, flat_strs xs, _, rfl, ?_⟩
      rw [inV_str]
      unfold shownL
      cases h : has "DONT_ACCEPT_BLANKLINE" xs with
      | true => exact iteT ⟨.str y, rfl, y, rfl, fun _ _ e => e, rfl⟩
      | false => exact iteF ⟨.str y, rfl, y, rfl, ly, fun H1 s s1 es => ⟨s, rfl, s1, es⟩⟩
    rintro σ H1 ⟨sh, rfl, s1, hsh⟩
    have lsh : sh.length ≤ 2000 := by
      rw [len_tl, hsh]
      unfold shownL
      have := mkd_len (tl y)
      rw [← len_tl] at this
      cases has "DONT_ACCEPT_BLANKLINE" xs with
      | true =>
        show (tl y).length ≤ _
        rw [← len_tl]
        omega
      | false =>
        show (mkd [] (tl y)).length ≤ _
        omega
    refine ⟨.str x, rfl, "Expected", x, rfl, by decide +kernel, by omega, fun H2 a s2 ea la => ⟨.str sh, rfl, "Got", sh, rfl, by decide +kernel, lsh, fun H3 b s3 eb lb => ⟨a, b, rfl, rfl, line_of (by omega), ?_⟩⟩⟩
    refine k H3 _ (s1.trans (s2.trans s3)) ?_ (by rw [len_app]; omega)
    rw [tl_append, ea, eb, hsh]
    rfl
end

/-! ### the law's own texts -/
/-- all signs are signs -/
def okS (x : Str) : Prop := strOkL (tl x) = true
where strOkL (l : List Nat) : Bool := l.all (· < 1114112)
theorem okS_iff {x : Str} : okS x ↔ ∀ c ∈ tl x, c < 1114112 := by
  unfold okS okS.strOkL
  rw [List.all_eq_true]
  exact ⟨fun h c hc => of_decide_eq_true (h c hc), fun h c hc => decide_eq_true (h c hc)⟩
theorem okS_str {x : Str} (h : okS x) : PyData.strOk x = true := by
  unfold PyData.strOk
  rw [Array.all_eq_true_iff_forall_mem]
  intro c hc
  exact decide_eq_true (okS_iff.mp h c (Array.mem_toList_iff.mpr hc))
theorem dp_strs {K : PySem.W.Frag} {H : Hp} : ∀ (ns : List Str), DpAll K H (ns.map V.str) (ns.map PyData.str)
  | [] => .nil
  | x :: r => .cons (.str x) (dp_strs r)
theorem canLay_strs (ns : List Str) (h : ∀ x ∈ ns, okS x) : PyData.canLayAll0 (ns.map PyData.str) = true := by
  induction ns with
  | nil => rfl
  | cons x r ih =>
    have h1 := okS_str (h x (List.mem_cons_self ..))
    have h2 := ih fun y hy => h y (List.mem_cons_of_mem _ hy)
    simp only [List.map_cons, PyData.canLayAll0, PyData.canLay0, Bool.and_eq_true]
    exact ⟨h1, h2⟩
theorem depth_strs (ns : List Str) : PyData.depthAll (ns.map PyData.str) ≤ 1 := by
  induction ns with
  | nil => simp [PyData.depthAll]
  | cons x r ih => simp [PyData.depthAll, PyData.depth]; omega
theorem shaped_strs (ns : List Str) (h : ∀ x ∈ ns, okS x) : SeqAt.shaped (.list (ns.map PyData.str)) = true := by
  have h1 := canLay_strs ns h
  have h2 := depth_strs ns
  simp [SeqAt.shaped, PyData.canLay0, PyData.depth, h1]
  omega
theorem eqv_nilS (ns : List Str) : PyData.eqv (.list (ns.map PyData.str)) (.list []) = ns.isEmpty := by
  cases ns <;> simp [PyData.eqv, PyData.eqvAll]

/-! ### a list, and an empty one -/
def rNeE (K : PySem.W.Frag) : R2 := fun x y H Q => ∃ (a b : Addr) (xs : List V), x = .ref a ∧ y = .ref b ∧ SqL K H a xs ∧ SqL K H b [] ∧ Q (.bl (!xs.isEmpty)) H
theorem op_neE {X : Cx} (hu : X.A.units + 64 < cLine) : OpR X (compareOp .NotEq) (rNeE X.K) := by
  intro pins s σ H x y v u Q I rx ry h
  obtain ⟨a, b, xs, rfl, rfl, ha, hb, q⟩ := h
  cases xs with
  | nil =>
    refine op_neD hu pins s σ H _ _ v u Q I rx ry ⟨_, _, .lst ha .nil, .lst hb .nil, shaped_strs [] nofun, shaped_strs [] nofun, ?_⟩
    have ev : PyData.eqv (.list []) (.list []) = true := eqv_nilS []
    rw [ev]
    exact q
  | cons c r =>
    cases (show v = Value.ref a from rx)
    cases (show u = Value.ref b from ry)
    obtain ⟨us, r1, p1, _⟩ := I.list ha
    obtain ⟨ws, r2, p2, _⟩ := I.list hb
    have hsz : (us.toArray.size != ws.toArray.size) = true := by
      rw [List.size_toArray, List.size_toArray, ← r1.length, ← r2.length]
      rfl
    exact SeqAt.RcNeAt.lists_lengths p1.isList p2.isList hsz (by omega) X.prog X.w X.xe _ ⟨.bl true, H, I, rfl, q⟩

/-! ### zip in a comprehension -/
theorem kit_no {K : PySem.W.Frag} {t : Value} {C : Addr} (is : PySem.W.isClsIn K C = true) (ty : PySem.W.typeIn K (.ref C) = some (.type "type")) (sub : PySem.W.subIn K t (.ref C) = some false) (ne : t ≠ .ref C) : PySem.W.kitOne K t (.ref C) = some false := by
  have h1 : (PySem.W.clsIn K C).isSome = true := is
  have h2 : (t == Value.ref C) = false := beq_eq_false_iff_ne.mpr ne
  have h3 : ((PySem.W.clsIn K C).isSome && PySem.W.typeIn K (.ref C) == some (.type "type")) = true := by
    rw [h1, ty]
    rfl
  unfold PySem.W.kitOne PySem.W.kitCls
  rw [h2, if_neg Bool.false_ne_true]
  dsimp only
  rw [if_pos h3, sub]
/-- comprehensions over zip, as lc_list -/
theorem lc_zip {K : PySem.W.Frag} {a b : Addr} {xs ys : List V} {g : TG} {tt : TT} {te : TE} {vs : List Nat} {σ : L2.St} {H1 : Hp} {D : Addr} {Qd : Hp → Prop} (hl : xs.length = ys.length) (Pv : Nat → Hp → Prop) (h0 : Pv 0 (upd H1 D (.lst []))) (hq : ∀ i H, Pv i H → SqL K H a xs ∧ SqL K H b ys)
    (hs : ∀ i x y T H, xs[i]? = some x → ys[i]? = some y → Pv i H → H T = none → g (.ref T) (wipe σ vs) (upd H T (.tup [x, y])) fun σ2 H2 => wipe σ2 vs = wipe σ vs ∧ tt σ2 H2 fun b H3 =>
      if b = true then te σ2 H3 fun y H4 => ∃ acc, H4 D = some (.lst acc) ∧ acc.length < sizeLine ∧ Pv (i + 1) (upd H4 D (.lst (acc ++ [y]))) else Pv (i + 1) H3) (hd : ∀ H, Pv xs.length H → Qd H) :
    ∃ W : Nat → Nat → Hp → Prop, (∃ m, W 0 m (upd H1 D (.lst []))) ∧ ∀ i m H, W i m H →
      ((Itz K a b).stop i H ∧ Qd H) ∨ ((Itz K a b).go i H ∧ ∃ Nx : Hp → Prop, (∀ H', Nx H' → ∃ m', m' < m ∧ W (i + 1) m' H') ∧ ∀ x H', (Itz K a b).yld i H x H' → g x (wipe σ vs) H' fun σ2 H2 => wipe σ2 vs = wipe σ vs ∧ tt σ2 H2 fun b H3 =>
        if b = true then te σ2 H3 fun y H4 => ∃ acc, H4 D = some (.lst acc) ∧ acc.length < sizeLine ∧ Nx (upd H4 D (.lst (acc ++ [y]))) else Nx H3) := by
  refine ⟨fun i m H => m = xs.length - i ∧ i ≤ xs.length ∧ Pv i H, ⟨xs.length, rfl, Nat.zero_le _, h0⟩, ?_⟩
  rintro i m H ⟨rfl, hi, p⟩
  obtain ⟨q1, q2⟩ := hq i H p
  by_cases hlt : i < xs.length
  · have hlt2 : i < ys.length := by omega
    refine .inr ⟨⟨xs, ys, xs[i], ys[i], q1, q2, List.getElem?_eq_getElem hlt, List.getElem?_eq_getElem hlt2⟩, Pv (i + 1), fun H' p' => ⟨xs.length - (i + 1), by omega, rfl, hlt, p'⟩, ?_⟩
    rintro v H' ⟨T, x, y, rfl, nT, rfl, hx, hy⟩
    exact hs i x y T H (hx xs q1) (hy ys q2) p nT
  · have e : i = xs.length := by omega
    subst e
    exact .inl ⟨⟨xs, ys, q1, q2, .inl (Nat.le_refl _)⟩, hd H p⟩
theorem lc_zipT {K : PySem.W.Frag} {a b : Addr} {xs ys : List V} {g : TG} {tt : TT} {te : TE} {vs : List Nat} {σ : L2.St} {H1 : Hp} {D : Addr} {Qd : Hp → Prop} (hl : xs.length = ys.length) (Pv : Nat → Hp → Prop) (h0 : Pv 0 (upd H1 D (.lst []))) (hq : ∀ i H, Pv i H → SqT K H a xs ∧ SqT K H b ys)
    (hs : ∀ i x y T H, xs[i]? = some x → ys[i]? = some y → Pv i H → H T = none → g (.ref T) (wipe σ vs) (upd H T (.tup [x, y])) fun σ2 H2 => wipe σ2 vs = wipe σ vs ∧ tt σ2 H2 fun b H3 =>
      if b = true then te σ2 H3 fun y H4 => ∃ acc, H4 D = some (.lst acc) ∧ acc.length < sizeLine ∧ Pv (i + 1) (upd H4 D (.lst (acc ++ [y]))) else Pv (i + 1) H3) (hd : ∀ H, Pv xs.length H → Qd H) :
    ∃ W : Nat → Nat → Hp → Prop, (∃ m, W 0 m (upd H1 D (.lst []))) ∧ ∀ i m H, W i m H →
      ((RZ.ItzT K a b).stop i H ∧ Qd H) ∨ ((RZ.ItzT K a b).go i H ∧ ∃ Nx : Hp → Prop, (∀ H', Nx H' → ∃ m', m' < m ∧ W (i + 1) m' H') ∧ ∀ x H', (RZ.ItzT K a b).yld i H x H' → g x (wipe σ vs) H' fun σ2 H2 => wipe σ2 vs = wipe σ vs ∧ tt σ2 H2 fun b H3 =>
        if b = true then te σ2 H3 fun y H4 => ∃ acc, H4 D = some (.lst acc) ∧ acc.length < sizeLine ∧ Nx (upd H4 D (.lst (acc ++ [y]))) else Nx H3) := by
  refine ⟨fun i m H => m = xs.length - i ∧ i ≤ xs.length ∧ Pv i H, ⟨xs.length, rfl, Nat.zero_le _, h0⟩, ?_⟩
  rintro i m H ⟨rfl, hi, p⟩
  obtain ⟨q1, q2⟩ := hq i H p
  by_cases hlt : i < xs.length
  · have hlt2 : i < ys.length := by omega
    refine .inr ⟨⟨xs, ys, xs[i], ys[i], q1, q2, List.getElem?_eq_getElem hlt, List.getElem?_eq_getElem hlt2⟩, Pv (i + 1), fun H' p' => ⟨xs.length - (i + 1), by omega, rfl, hlt, p'⟩, ?_⟩
    rintro v H' ⟨T, x, y, rfl, nT, rfl, hx, hy⟩
    exact hs i x y T H (hx xs q1) (hy ys q2) p nT
  · have e : i = xs.length := by omega
    subst e
    exact .inl ⟨⟨xs, ys, q1, q2, .inl (Nat.le_refl _)⟩, hd H p⟩

/-! ### zip of a list with a tuple -/
/-- what gives items one by one: an iterator over something that stands -/
structure Well (i l : Addr) (xs : Array Value) where
  st : Heap → Nat → Prop
  keep : ∀ {h h' : Heap} {k : Nat} {c : Addr}, st h k → Heap.ExtBut c h h' → i ≠ c → l ≠ c → st h' k
  at_ : ∀ {h h' : Heap} {k : Nat}, st h k → (∀ o, h.get? i = some o → h'.get? i = some o) → (∀ o, h.get? l = some o → h'.get? l = some o) → st h' k
  lives : ∀ {h : Heap} {k : Nat}, st h k → ∃ o, h.get? i = some o ∧ ∀ c, o.data ≠ .cell c
  item : ∀ {prog : Program} {w : World} {A : Around} {E : Value → Shared → Prop} {s : Shared} {k : Nat} {x : Value} {Q : Value → Shared → Prop}, st s.heap k → xs[k]? = some x → (∀ h', st h' (k + 1) → Heap.SameBut i s.heap h' → Q x { s with heap := h' }) → wpAny (model prog w) A (Builtin.SmallTypes.nextOf (.ref i)) Q E s
  over : ∀ {prog : Program} {w : World} {A : Around} {E : Value → Shared → Prop} {s : Shared} {k : Nat} {Q : Value → Shared → Prop}, A.handled = none → st s.heap k → xs[k]? = none → (∀ h' e, Heap.ExtBut i s.heap h' → (∃ o, h'.get? e = some o ∧ o.cls = .type "StopIteration") → E (.ref e) { s with heap := h' }) → wpAny (model prog w) A (Builtin.SmallTypes.nextOf (.ref i)) Q E s
def wellL {i l : Addr} {xs : Array Value} (n : l ≠ i) : Well i l xs where
  st h k := h.IsListIter i l k ∧ h.IsList l xs
  keep t e a b := ⟨t.1.extBut e a, t.2.extBut e b⟩
  at_ t e f := ⟨t.1.at e, let ⟨o, ho, r⟩ := t.2; ⟨o, f _ ho, r⟩⟩
  lives t := let ⟨o, ho, _, hd⟩ := t.1; ⟨o, ho, fun c z => by rw [hd] at z; cases z⟩
  item t e q := wpAny_nextOf_list_item t.1 t.2 e fun h' a b => q h' ⟨a, t.2.extBut b.extBut n⟩ b
  over hh t e q := wpAny_nextOf_list_end hh t.1 t.2 e q
def wellT {i l : Addr} {xs : Array Value} (n : l ≠ i) : Well i l xs where
  st h k := h.IsTupleIter i l k ∧ h.IsTuple l xs
  keep t e a b := ⟨t.1.extBut e a, t.2.extBut e b⟩
  at_ t e f := ⟨t.1.at e, let ⟨o, ho, r⟩ := t.2; ⟨o, f _ ho, r⟩⟩
  lives t := let ⟨o, ho, _, hd⟩ := t.1; ⟨o, ho, fun c z => by rw [hd] at z; cases z⟩
  item t e q := RZ.nextOf_tuple_item t.1 t.2 e fun h' a b => q h' ⟨a, t.2.extBut b.extBut n⟩ b
  over hh t e q := RZ.nextOf_tuple_end hh t.1 t.2 e q
section
variable {prog : Program} {w : World} {A : Around} {E : Value → Shared → Prop} {s : Shared}
variable {z p o i1 i2 l1 l2 : Addr} {k1 k2 : Nat} {xs ys : Array Value} {x y a b : Value}
/-- ahead of the items: the zip's own tuple is free, and is taken -/
theorem zipW_pair (D : ZipApart z p o i1 i2 l1 l2) (W1 : Well i1 l1 xs) (W2 : Well i2 l2 ys) {Q : Value → Shared → Prop} (hz : IsZip s.heap z p o .none) (hp : IsPair s.heap p (.ref i1) (.ref i2)) (ho : IsPair s.heap o a b) (t1 : W1.st s.heap k1) (t2 : W2.st s.heap k2) (ex : xs[k1]? = some x) (ey : ys[k2]? = some y)
    (q : ∀ g, IsZip g z p o (rawInt s.heap.objs.size) → IsPair g o x y → W1.st g (k1 + 1) → W2.st g (k2 + 1) → IsPair g s.heap.objs.size x y → g.objs.size = s.heap.objs.size + 1 → (∀ c ob, c ≠ z → c ≠ o → c ≠ i1 → c ≠ i2 → s.heap.get? c = some ob → g.get? c = some ob) → Q (.ref s.heap.objs.size) { s with heap := g }) :
    wpAny (model prog w) A (Builtin.«zip.__next__» ⟨[.ref z], []⟩) (fun fin s' => ∃ v, fin = .done (.ret v) ∧ Q v s') E s := by
  change wpAny _ _ (bind (field (.ref z) 2) _) _ _ _
  refine wpAny_bind (wpAny_field hz rfl (x := .bool false) rfl ?_)
  change wpAny _ _ (bind (field (.ref z) 3) _) _ _ _
  refine wpAny_bind (wpAny_field hz rfl (x := .ref p) rfl (wpAny_bind (wpAny_seqItems hp rfl ?_)))
  change wpAny _ _ (bind (Builtin.SmallTypes.ownedTupleIsFree (.ref z)) _) _ _ _
  refine wpAny_bind ?_
  unfold Builtin.SmallTypes.ownedTupleIsFree
  refine wpAny_bind (wpAny_field hz rfl (x := .none) rfl (wpAny_pure ?_))
  simp only [if_true]
  refine wpAny_bind (wpAny_rule (wpAny_bind (wpAny_field hz rfl (x := .ref o) rfl (wpAny_bind (wpAny_setField_rec hz (by simp) fun g1 z1 b1 => wpAny_bind ?_)))))
  have z1 : IsZip g1 z p o .ellipsis := z1
  simp only [List.zipIdx_cons, List.zipIdx_nil, List.forIn_cons, List.forIn_nil]
  have first1 := W1.keep t1 b1.extBut D.i1z D.l1z
  refine wpAny_bind (wpAny_bind (wpAny_onRaise (wpAny_bind (m := Builtin.SmallTypes.nextOf (.ref i1)) (W1.item first1 ex fun g2 u1 b2 => wpAny_pure ?_))))
  have o2 : IsPair g2 o a b := b2.extBut _ _ D.TOi1 (b1.extBut _ _ D.TOz ho)
  refine wpAny_bind (wpAny_seqItems o2 rfl (wpAny_bind (wpAny_updateSeq_pair o2 fun g3 o3 b3 => wpAny_bind (wpAny_letGo (wpAny_pure ?_)))))
  have o3 : IsPair g3 o x b := o3
  have second3 := W2.keep (W2.keep (W2.keep t2 b1.extBut D.i2z D.l2z) b2.extBut D.i12.symm D.l2i1) b3.extBut D.TOi2.symm D.l2TO
  refine wpAny_bind (wpAny_bind (wpAny_onRaise (wpAny_bind (m := Builtin.SmallTypes.nextOf (.ref i2)) (W2.item second3 ey fun g4 u2 b4 => wpAny_pure ?_))))
  have o4 : IsPair g4 o x b := b4.extBut _ _ D.TOi2 o3
  refine wpAny_bind (wpAny_seqItems o4 rfl (wpAny_bind (wpAny_updateSeq_pair o4 fun g5 o5 b5 => wpAny_bind (wpAny_letGo (wpAny_pure (wpAny_pure ?_))))))
  have o5 : IsPair g5 o x y := o5
  refine wpAny_bind (wpAny_seqItems o5 rfl (wpAny_bind (wpAny_newTuple ?_)))
  have n5 : g5.objs.size = s.heap.objs.size := by rw [b5.1, b4.1, b3.1, b2.1, b1.1]
  have z5 : IsZip g5 z p o .ellipsis := b5.extBut _ _ D.TOz.symm (b4.extBut _ _ D.i2z.symm (b3.extBut _ _ D.TOz.symm (b2.extBut _ _ D.i1z.symm z1)))
  have r5 : ∀ c ob, c ≠ z → c ≠ o → c ≠ i1 → c ≠ i2 → s.heap.get? c = some ob → g5.get? c = some ob := fun c ob c1 c2 c3 c4 e =>
    b5.extBut _ _ c2 (b4.extBut _ _ c4 (b3.extBut _ _ c2 (b2.extBut _ _ c3 (b1.extBut _ _ c1 e))))
  have v1 := W1.keep (W1.keep (W1.keep u1 b3.extBut D.TOi1.symm D.l1TO) b4.extBut D.i12 D.l1i2) b5.extBut D.TOi1.symm D.l1TO
  have v2 := W2.keep u2 b5.extBut D.TOi2.symm D.l2TO
  have zlt := Heap.lt_size z5
  refine wpAny_bind (m := Builtin.SmallTypes.ownedTupleHandOut (.ref z) (.ref g5.objs.size)) ?_
  unfold Builtin.SmallTypes.ownedTupleHandOut
  have z6 : IsZip (g5.push { cls := .type "tuple", data := .seq #[x, y] }) z p o .ellipsis := Heap.get?_push_of_some _ z5
  refine wpAny_bind (wpAny_setField_rec z6 (by simp) fun g7 z7 b7 => ?_)
  have z7 : IsZip g7 z p o (rawInt g5.objs.size) := z7
  refine wpAny_setField_rec z7 (by simp) fun g8 z8 b8 => wpAny_pure ⟨_, rfl, ?_⟩
  have z8 : IsZip g8 z p o (rawInt g5.objs.size) := z8
  have rise : ∀ c ob, c ≠ z → g5.get? c = some ob → g8.get? c = some ob := fun c ob c1 e => b8.extBut _ _ c1 (b7.extBut _ _ c1 (Heap.get?_push_of_some _ e))
  have p8 : IsPair g8 g5.objs.size x y := b8.extBut _ _ (Nat.ne_of_gt zlt) (b7.extBut _ _ (Nat.ne_of_gt zlt) (Heap.get?_push_size _ rfl))
  have n8 : g8.objs.size = g5.objs.size + 1 := by rw [b8.1, b7.1, Heap.size_push]
  change Q (.ref g5.objs.size) _
  rw [n5] at z8 p8 n8 ⊢
  exact q g8 z8 (rise _ _ D.TOz o5) (W1.at_ v1 (fun ob => rise _ ob D.i1z) fun ob => rise _ ob D.l1z) (W2.at_ v2 (fun ob => rise _ ob D.i2z) fun ob => rise _ ob D.l2z) p8 n8 fun c ob c1 c2 c3 c4 e => rise c ob c1 (r5 c ob c1 c2 c3 c4 e)
theorem zipW_over {Q : Fin → Shared → Prop} (hh : A.handled = none) (D : ZipApart z p o i1 i2 l1 l2) (W1 : Well i1 l1 xs) (W2 : Well i2 l2 ys) (hz : IsZip s.heap z p o .none) (hp : IsPair s.heap p (.ref i1) (.ref i2)) (ho : IsPair s.heap o a b) (t1 : W1.st s.heap k1) (t2 : W2.st s.heap k2) (end_ : xs[k1]? = none ∨ ys[k2]? = none)
    (q : ∀ g e, (∀ c ob, c ≠ z → c ≠ o → c ≠ i1 → c ≠ i2 → s.heap.get? c = some ob → g.get? c = some ob) → (∃ ob, g.get? e = some ob ∧ ob.cls = .type "StopIteration") → E (.ref e) { s with heap := g }) :
    wpAny (model prog w) A (Builtin.«zip.__next__» ⟨[.ref z], []⟩) Q E s := by
  change wpAny _ _ (bind (field (.ref z) 2) _) _ _ _
  refine wpAny_bind (wpAny_field hz rfl (x := .bool false) rfl ?_)
  change wpAny _ _ (bind (field (.ref z) 3) _) _ _ _
  refine wpAny_bind (wpAny_field hz rfl (x := .ref p) rfl (wpAny_bind (wpAny_seqItems hp rfl ?_)))
  change wpAny _ _ (bind (Builtin.SmallTypes.ownedTupleIsFree (.ref z)) _) _ _ _
  refine wpAny_bind ?_
  unfold Builtin.SmallTypes.ownedTupleIsFree
  refine wpAny_bind (wpAny_field hz rfl (x := .none) rfl (wpAny_pure ?_))
  simp only [if_true]
  refine wpAny_bind (wpAny_rule (wpAny_bind (wpAny_field hz rfl (x := .ref o) rfl (wpAny_bind (wpAny_setField_rec hz (by simp) fun g1 z1 b1 => wpAny_bind ?_)))))
  have z1 : IsZip g1 z p o .ellipsis := z1
  simp only [List.zipIdx_cons, List.zipIdx_nil, List.forIn_cons, List.forIn_nil]
  have first1 := W1.keep t1 b1.extBut D.i1z D.l1z
  have apart : ∀ {g : Heap} {e : Addr}, IsZip g z p o .ellipsis → (∃ ob, g.get? e = some ob ∧ ob.cls = .type "StopIteration") → e ≠ z := fun {g e} zz ⟨ob, e1, e2⟩ h => by
    subst h
    rw [zz] at e1
    cases e1
    simp at e2
  cases ex : xs[k1]? with
  | none =>
    refine wpAny_bind (wpAny_bind (wpAny_onRaise (wpAny_bind (m := Builtin.SmallTypes.nextOf (.ref i1)) (W1.over hh first1 ex fun g2 e b2 he => ?_))))
    have z2 : IsZip g2 z p o .ellipsis := b2 _ _ D.i1z.symm z1
    have ne := apart z2 he
    obtain ⟨oe, e1, e2⟩ := he
    exact wpAny_setField_rec z2 (by simp) fun g3 _ b3 => q g3 e (fun c ob c1 _ c3 _ h => b3.extBut _ _ c1 (b2 _ _ c3 (b1.extBut _ _ c1 h))) ⟨oe, b3.extBut _ _ ne e1, e2⟩
  | some x =>
    have ey : ys[k2]? = none := by
      rcases end_ with h | h
      · rw [ex] at h
        cases h
      · exact h
    refine wpAny_bind (wpAny_bind (wpAny_onRaise (wpAny_bind (m := Builtin.SmallTypes.nextOf (.ref i1)) (W1.item first1 ex fun g2 u1 b2 => wpAny_pure ?_))))
    have o2 : IsPair g2 o a b := b2.extBut _ _ D.TOi1 (b1.extBut _ _ D.TOz ho)
    refine wpAny_bind (wpAny_seqItems o2 rfl (wpAny_bind (wpAny_updateSeq_pair o2 fun g3 o3 b3 => wpAny_bind (wpAny_letGo (wpAny_pure ?_)))))
    have second3 := W2.keep (W2.keep (W2.keep t2 b1.extBut D.i2z D.l2z) b2.extBut D.i12.symm D.l2i1) b3.extBut D.TOi2.symm D.l2TO
    refine wpAny_bind (wpAny_bind (wpAny_onRaise (wpAny_bind (m := Builtin.SmallTypes.nextOf (.ref i2)) (W2.over hh second3 ey fun g4 e b4 he => ?_))))
    have z4 : IsZip g4 z p o .ellipsis := b4 _ _ D.i2z.symm (b3.extBut _ _ D.TOz.symm (b2.extBut _ _ D.i1z.symm z1))
    have ne := apart z4 he
    obtain ⟨oe, e1, e2⟩ := he
    exact wpAny_setField_rec z4 (by simp) fun g5 _ b5 => q g5 e (fun c ob c1 c2 c3 c4 h => b5.extBut _ _ c1 (b4 _ _ c4 (b3.extBut _ _ c2 (b2.extBut _ _ c3 (b1.extBut _ _ c1 h))))) ⟨oe, b5.extBut _ _ ne e1, e2⟩
end
section
variable {prog : Program} {w : World} {A : Around} {E : Value → Shared → Prop} {s : Shared}
variable {z p o i1 i2 l1 l2 : Addr} {k1 k2 : Nat} {xs ys : Array Value} {x y a b : Value}
theorem zipW_some (D : ZipApart z p o i1 i2 l1 l2) (W1 : Well i1 l1 xs) (W2 : Well i2 l2 ys) {Q : Option Value → Shared → Prop} (hz : IsZip s.heap z p o .none) (hp : IsPair s.heap p (.ref i1) (.ref i2)) (ho : IsPair s.heap o a b) (t1 : W1.st s.heap k1) (t2 : W2.st s.heap k2) (ex : xs[k1]? = some x) (ey : ys[k2]? = some y)
    (q : ∀ g, IsZip g z p o (rawInt s.heap.objs.size) → IsPair g o x y → W1.st g (k1 + 1) → W2.st g (k2 + 1) → IsPair g s.heap.objs.size x y → g.objs.size = s.heap.objs.size + 1 → (∀ c ob, c ≠ z → c ≠ o → c ≠ i1 → c ≠ i2 → s.heap.get? c = some ob → g.get? c = some ob) → Q (some (.ref s.heap.objs.size)) { s with heap := g }) :
    wpAny (model prog w) A (pyNext (.ref z)) Q E s := by
  have ty : s.TypeIs (.ref z) "zip" := ⟨_, hz, rfl⟩
  unfold pyNext
  exact wpAny_bind (wpAny_attempt (wpAny_callSpecial?_slot ty F.slot_zip_next (wpAny_call_entry F.slot_zip_next ty F.entry_zip_next (zipW_pair D W1 W2 hz hp ho t1 t2 ex ey fun g a1 a2 a3 a4 a5 a6 a7 => wpAny_pure (q g a1 a2 a3 a4 a5 a6 a7)) (F.args_zip_next_1 _))))
theorem zipW_none (hh : A.handled = none) (D : ZipApart z p o i1 i2 l1 l2) (W1 : Well i1 l1 xs) (W2 : Well i2 l2 ys) {Q : Option Value → Shared → Prop} (hz : IsZip s.heap z p o .none) (hp : IsPair s.heap p (.ref i1) (.ref i2)) (ho : IsPair s.heap o a b) (t1 : W1.st s.heap k1) (t2 : W2.st s.heap k2) (end_ : xs[k1]? = none ∨ ys[k2]? = none)
    (q : ∀ g, (∀ c ob, c ≠ z → c ≠ o → c ≠ i1 → c ≠ i2 → s.heap.get? c = some ob → g.get? c = some ob) → Q none { s with heap := g }) : wpAny (model prog w) A (pyNext (.ref z)) Q E s := by
  have ty : s.TypeIs (.ref z) "zip" := ⟨_, hz, rfl⟩
  unfold pyNext
  refine wpAny_bind (wpAny_attempt (wpAny_callSpecial?_slot ty F.slot_zip_next (wpAny_call_entry F.slot_zip_next ty F.entry_zip_next (zipW_over hh D W1 W2 hz hp ho t1 t2 end_ fun g e r he => ?_) (F.args_zip_next_1 _))))
  obtain ⟨oe, e1, e2⟩ := he
  exact wpAny_bind (wpAny_isInstance (T := "StopIteration") (b := true) ⟨oe, e1, e2⟩ isSubtype_stop (wpAny_pure (q _ r)))
end
/-- the heap behind zip(list, tuple) -/
def zm1 (h : Heap) (l1 : Addr) : Heap := h.push { cls := .type "list_iterator", data := .fields #[.ref l1, .int 0 0] }
def zm2 (h : Heap) (l1 l2 : Addr) : Heap := (zm1 h l1).push { cls := .type "tuple_iterator", data := .fields #[.ref l2, .int 0 0] }
def zm3 (h : Heap) (l1 l2 : Addr) : Heap := (zm2 h l1 l2).push { cls := .type "tuple", data := .seq #[.ref h.objs.size, .ref (zm1 h l1).objs.size] }
def zm4 (h : Heap) (l1 l2 : Addr) : Heap := (zm3 h l1 l2).push { cls := .type "tuple", data := .seq #[.none, .none] }
def zm5 (h : Heap) (l1 l2 : Addr) : Heap := (zm4 h l1 l2).push { cls := .type "zip", data := .fields #[.none, .bool false, .bool false, .ref (zm2 h l1 l2).objs.size, .ref (zm3 h l1 l2).objs.size] }
theorem zipM_new (l1 l2 : Addr) (xs ys : Array Value) : Meets (Builtin.«zip.__new__» ⟨[.type "zip", .ref l1, .ref l2], []⟩) (fun _ R s => s.heap.IsList l1 xs ∧ s.heap.IsTuple l2 ys ∧ R (.ok (.ret (.ref (zm4 s.heap l1 l2).objs.size))) { s with heap := zm5 s.heap l1 l2 }) :=
  .of_wp fun prog w A R s h => by
    obtain ⟨hp, g, d, tk, os⟩ := s
    obtain ⟨q1, q2, q⟩ := h
    have hsub := sub_zip
    have one : Heap.IsList (Shared.heap ⟨hp, g, d, tk, os⟩) l1 xs := q1
    have two : Heap.IsTuple (Shared.heap ⟨hp.push { cls := .type "list_iterator", data := .fields #[.ref l1, .int 0 0] }, g, d, tk, os⟩) l2 ys := Heap.IsTuple.push q2 _
    wp_walk using wpAny_pyIter_list one, wpAny_pyIter_tuple two
    exact ⟨_, rfl, q⟩
section
variable {prog : Program} {w : World} {A : Around} {E : Value → Shared → Prop} {s : Shared}
theorem zipM_call {l1 l2 : Addr} {xs ys : Array Value} {Q : Value → Shared → Prop} (q1 : s.heap.IsList l1 xs) (q2 : s.heap.IsTuple l2 ys)
    (q : ∀ g, IsZip g (s.heap.objs.size + 4) (s.heap.objs.size + 2) (s.heap.objs.size + 3) .none → IsPair g (s.heap.objs.size + 2) (.ref s.heap.objs.size) (.ref (s.heap.objs.size + 1)) → IsPair g (s.heap.objs.size + 3) .none .none →
      g.IsListIter s.heap.objs.size l1 0 → g.IsTupleIter (s.heap.objs.size + 1) l2 0 → (∀ c o, s.heap.get? c = some o → g.get? c = some o) → Q (.ref (s.heap.objs.size + 4)) { s with heap := g }) :
    wpAny (model prog w) A (call (.type "zip") [.ref l1, .ref l2]) Q E s := by
  refine callType_new F.called_zip (by decide) (F.typeCall_zip_2 _ _) (F.newCall_zip_2 _ _) (fun ob => F.args_object_init_3 ob _ _) F.entry_zip_new (zipM_new l1 l2 xs ys) ⟨q1, q2, ?_⟩
  have n1 : (zm1 s.heap l1).objs.size = s.heap.objs.size + 1 := Heap.size_push ..
  have n2 : (zm2 s.heap l1 l2).objs.size = s.heap.objs.size + 2 := (Heap.size_push ..).trans (congrArg Nat.succ n1)
  have n3 : (zm3 s.heap l1 l2).objs.size = s.heap.objs.size + 3 := (Heap.size_push ..).trans (congrArg Nat.succ n2)
  have n4 : (zm4 s.heap l1 l2).objs.size = s.heap.objs.size + 4 := (Heap.size_push ..).trans (congrArg Nat.succ n3)
  have p5 : (zm5 s.heap l1 l2).get? (zm4 s.heap l1 l2).objs.size = some _ := Heap.get?_push_size _ rfl
  have p4 : (zm5 s.heap l1 l2).get? (zm3 s.heap l1 l2).objs.size = some _ := Heap.get?_push_of_some _ (Heap.get?_push_size _ rfl)
  have p3 : (zm5 s.heap l1 l2).get? (zm2 s.heap l1 l2).objs.size = some _ := Heap.get?_push_of_some _ (Heap.get?_push_of_some _ (Heap.get?_push_size _ rfl))
  have p2 : (zm5 s.heap l1 l2).get? (zm1 s.heap l1).objs.size = some _ := Heap.get?_push_of_some _ (Heap.get?_push_of_some _ (Heap.get?_push_of_some _ (Heap.get?_push_size _ rfl)))
  have p1 : (zm5 s.heap l1 l2).get? s.heap.objs.size = some _ := Heap.get?_push_of_some _ (Heap.get?_push_of_some _ (Heap.get?_push_of_some _ (Heap.get?_push_of_some _ (Heap.get?_push_size _ rfl))))
  change _ ∧ _
  rw [n2, n3, n4] at p5
  rw [n1, n2] at p3
  rw [n3] at p4
  rw [n1] at p2
  rw [n4]
  exact ⟨⟨_, p5, rfl⟩, q _ p5 p3 p4 ⟨_, p1, rfl, rfl⟩ ⟨_, p2, rfl, rfl⟩ fun c o e => Heap.get?_push_of_some _ (Heap.get?_push_of_some _ (Heap.get?_push_of_some _ (Heap.get?_push_of_some _ (Heap.get?_push_of_some _ e))))⟩
end
/-- a list and a tuple, item by item -/
def ItM (K : PySem.W.Frag) (a b : Addr) : It where
  go i H := ∃ (xs ys : List V) (x y : V), SqL K H a xs ∧ SqT K H b ys ∧ xs[i]? = some x ∧ ys[i]? = some y
  yld i H v H' := ∃ T x y, v = .ref T ∧ H T = none ∧ H' = upd H T (.tup [x, y]) ∧ (∀ xs, SqL K H a xs → xs[i]? = some x) ∧ ∀ ys, SqT K H b ys → ys[i]? = some y
  stop i H := ∃ xs ys : List V, SqL K H a xs ∧ SqT K H b ys ∧ (xs.length ≤ i ∨ ys.length ≤ i)
theorem turn_M {P : Program} {w : World} {K : PySem.W.Frag} {elts : List Expr} {kk : Nat} {tpos : Pos} {a b z p o i1 i2 : Addr} (D : ZipApart z p o i1 i2 a b) :
    Turn P w K (.Tuple elts kk tpos) (ItM K a b) [z, p, o, i1, i2] z (fun i h => IsZip h z p o .none ∧ IsPair h p (.ref i1) (.ref i2) ∧ (∃ x y, IsPair h o x y) ∧ h.IsListIter i1 a i ∧ h.IsTupleIter i2 b i) where
  mem := by simp
  obj i h st c hc := by
    obtain ⟨s1, s2, ⟨x, y, s3⟩, ⟨o1, e1, _, d1⟩, ⟨o2, e2, _, d2⟩⟩ := st
    simp only [List.mem_cons, List.not_mem_nil, or_false] at hc
    rcases hc with rfl | rfl | rfl | rfl | rfl
    · exact ⟨_, s1, fun v z => nomatch z⟩
    · exact ⟨_, s2, fun v z => nomatch z⟩
    · exact ⟨_, s3, fun v z => nomatch z⟩
    · exact ⟨o1, e1, fun v z => by rw [d1] at z; cases z⟩
    · exact ⟨o2, e2, fun v z => by rw [d2] at z; cases z⟩
  keep i h h' st k := by
    obtain ⟨s1, s2, ⟨x, y, s3⟩, s4, s5⟩ := st
    exact ⟨k _ (by simp) _ s1, k _ (by simp) _ s2, ⟨x, y, k _ (by simp) _ s3⟩, s4.at fun ob e => k _ (by simp) ob e, s5.at fun ob e => k _ (by simp) ob e⟩
  item := by
    rintro X rfl rfl rfl hc i pins s σ H E I hf ⟨s1, s2, ⟨x0, y0, s3⟩, s4, s5⟩ ⟨xs, ys, x, y, qx, qy, hx, hy⟩
    obtain ⟨its, rv, pl, _⟩ := I.list qx
    obtain ⟨its2, rv2, pt, _⟩ := I.tuple qy
    obtain ⟨u, hu, ru⟩ := rv.get hx
    obtain ⟨u2, hu2, ru2⟩ := rv2.get hy
    have zl := Heap.lt_size s1
    refine zipW_some (x := u) (y := u2) D (wellL (xs := its.toArray) D.l1i1) (wellT (xs := its2.toArray) D.l2i2) s1 s2 s3 ⟨s4, pl.isList⟩ ⟨s5, pt⟩ (by simpa using hu) (by simpa using hu2) fun g z' o' v1 v2 hT hn r => ⟨_, rfl, wpAny_letOwnedTupleGo_zip (s := { s with heap := g }) z' fun g2 z2 sb => ?_⟩
    have hT2 : g2.get? s.heap.objs.size = some { cls := .type "tuple", data := .seq #[u, u2] } := (sb.2 _ (Nat.ne_of_gt zl)).trans hT
    have fresh : ObjOk X.prog X.w (upd H s.heap.objs.size (.tup [x, y])) g2 s.heap.objs.size (.tup [x, y]) := ⟨by show 2 ≤ sizeLine; decide, [u, u2], .cons ru (.cons ru2 .nil), ⟨_, hT2, rfl, _, rfl⟩⟩
    have I1 : Inv X pins σ (upd H s.heap.objs.size (.tup [x, y])) { s with heap := g2 } := by
      refine I.turnedNew (t' := s.toks) (ch := [z, p, o, i1, i2]) (fun c ob hb e => ?_) hf (Nat.le_refl _) fresh
      simp only [List.mem_cons, List.not_mem_nil, or_false, not_or] at hb
      exact (sb.2 c hb.1).trans (r c ob hb.1 hb.2.2.1 hb.2.2.2.1 hb.2.2.2.2 e)
    refine ⟨.ref s.heap.objs.size, _, I1, rfl, ⟨_, x, y, rfl, I.hok.fresh (Nat.le_refl _), rfl, fun l hl => by rw [I.list_inj hl qx]; exact hx, fun l hl => by rw [I.tuple_inj hl qy]; exact hy⟩, ⟨z2, ?_, ⟨u, u2, ?_⟩, ?_, ?_⟩, fun c hcm => ?_⟩
    · exact (sb.2 _ D.TIz).trans (r _ _ D.TIz D.TITO D.TIi1 D.TIi2 s2)
    · exact (sb.2 _ D.TOz).trans o'
    · exact v1.1.at fun ob e => (sb.2 _ D.i1z).trans e
    · exact v2.1.at fun ob e => (sb.2 _ D.i2z).trans e
    · have lt : c < s.heap.objs.size := by
        simp only [List.mem_cons, List.not_mem_nil, or_false] at hcm
        rcases hcm with rfl | rfl | rfl | rfl | rfl
        · exact zl
        · exact Heap.lt_size s2
        · exact Heap.lt_size s3
        · obtain ⟨_, e1, _⟩ := s4
          exact Heap.lt_size e1
        · obtain ⟨_, e1, _⟩ := s5
          exact Heap.lt_size e1
      rw [upd_ne (Nat.ne_of_lt lt)]
      exact (hf c hcm).1
  done := by
    rintro X rfl rfl rfl hc i pins s σ H E I hf ⟨s1, s2, ⟨x0, y0, s3⟩, s4, s5⟩ ⟨xs, ys, qx, qy, hend⟩
    obtain ⟨its, rv, pl, _⟩ := I.list qx
    obtain ⟨its2, rv2, pt, _⟩ := I.tuple qy
    have n1 := rv.length
    have n2 := rv2.length
    refine zipW_none (I.ok.hd hc) D (wellL (xs := its.toArray) D.l1i1) (wellT (xs := its2.toArray) D.l2i2) s1 s2 s3 ⟨s4, pl.isList⟩ ⟨s5, pt⟩ (k1 := i) (k2 := i) ?_ fun g r => ⟨rfl, I.turnedL (t' := s.toks) (ch := [z, p, o, i1, i2]) (fun c ob hb e => ?_) hf⟩
    · rcases hend with h | h
      · exact .inl (by simp; omega)
      · exact .inr (by simp; omega)
    · simp only [List.mem_cons, List.not_mem_nil, or_false, not_or] at hb
      exact r c ob hb.1 hb.2.2.1 hb.2.2.2.1 hb.2.2.2.2 e
  self A i s Q E st h := wpAny_pyIter_zip st.1 h
/-- zip of a list with a list or with a tuple -/
def iZipM (K : PySem.W.Frag) (ta : TA) : TI := fun σ H R => ta σ H fun vs H1 => ∃ a b xs ys, vs = [.ref a, .ref b] ∧ SqL K H1 a xs ∧ ((SqL K H1 b ys ∧ R (Itz K a b) H1) ∨ (SqT K H1 b ys ∧ R (ItM K a b) H1))
theorem pi_zipM {X : Cx} {e e2 : Expr} {ta : TA} {q pos tpos : Pos} {elts : List Expr} {kk : Nat} (hg : Gl X "zip") (hm : X.mg "zip" = none) (ha : PA X [e, e2] ta)
    (hs : starEach [e, e2] X.env = (false, eval e X.env) :: starEach [e2] X.env := by rfl) (hpl : (backTo pos (starEach [e2] X.env)).any (·.1) = false := by rfl) :
    PI X (.Tuple elts kk tpos) (.Call (.Name "zip" q) [e, e2] [] pos) (iZipM X.K ta) := by
  refine ⟨fun pins s σ H R I h => Call_ (ld_blt I hg hm PyProof.Rows.boot_zip (PyProof.Rows.callWith_type1 (thn (ha.run pos pins s σ H _ I h) fun us s1 ⟨vs, H1, I1, r1, q1⟩ => ?_) hs hpl))⟩
  obtain ⟨a, b, xs, ys, rfl, qx, q1⟩ := q1
  rcases r1 with _ | ⟨r, rr⟩
  rcases rr with _ | ⟨r', rr⟩
  cases rr
  cases r
  cases r'
  have five : ∀ c ∈ [s1.heap.objs.size + 4, s1.heap.objs.size + 2, s1.heap.objs.size + 3, s1.heap.objs.size, s1.heap.objs.size + 1], FpOk X pins H1 c := fun c hcm => by
    have le : s1.heap.objs.size ≤ c := by
      simp only [List.mem_cons, List.not_mem_nil, or_false] at hcm
      rcases hcm with rfl | rfl | rfl | rfl | rfl
      · exact Nat.le_add_right _ 4
      · exact Nat.le_add_right _ 2
      · exact Nat.le_add_right _ 3
      · exact Nat.le_refl _
      · exact Nat.le_add_right _ 1
    exact I1.fpOk le (I1.hok.fresh le)
  obtain ⟨its, rv, pl, _⟩ := I1.list qx
  rcases q1 with ⟨qy, q⟩ | ⟨qy, q⟩
  · obtain ⟨its2, rv2, p2, _⟩ := I1.list qy
    exact call_zip_2 pl.isList p2.isList fun g z1 z2 z3 z4 z5 n r => wpAny_pyIter_zip z1 ⟨_, _, _, _, H1, rfl, I1.kept (t' := s1.toks) r, turn_zip (PySem.W.ktu_apart s1.heap.objs.size a b pl.lt p2.lt), ⟨z1, z2, ⟨_, _, z3⟩, z4, z5⟩, five, q⟩
  · obtain ⟨its2, rv2, p2, _⟩ := I1.tuple qy
    obtain ⟨o2, ho2, _⟩ := id p2
    exact zipM_call pl.isList (show s1.heap.IsTuple b its2.toArray from p2) fun g z1 z2 z3 z4 z5 r => wpAny_pyIter_zip z1 ⟨_, _, _, _, H1, rfl, I1.kept (t' := s1.toks) r, turn_M (PySem.W.ktu_apart s1.heap.objs.size a b pl.lt (Heap.lt_size ho2)), ⟨z1, z2, ⟨_, _, z3⟩, z4, z5⟩, five, q⟩
/-- a loop over zip of a list and a tuple of one length -/
theorem for_zipM {K : PySem.W.Frag} {a b : Addr} {xs ys : List V} {g : TG} {tb : TS} {D : Ends} {σ : L2.St} {H : Hp} (hl : xs.length = ys.length) (Pv : Nat → L2.St → Hp → Prop) (h0 : Pv 0 σ H) (hq : ∀ i σ H, Pv i σ H → SqL K H a xs ∧ SqT K H b ys)
    (step : ∀ (i : Nat) (x y : V) (T : Addr) (σ : L2.St) (H : Hp), xs[i]? = some x → ys[i]? = some y → Pv i σ H → H T = none → g (.ref T) σ (upd H T (.tup [x, y])) fun σ2 H2 => tb { D with nx := Pv (i + 1), ct := Pv (i + 1), bk := D.nx } σ2 H2) (hd : ∀ σ H, Pv xs.length σ H → D.nx σ H) :
    ∃ W : Nat → Nat → L2.St → Hp → Prop, (∃ m, W 0 m σ H) ∧ ∀ i m σ H, W i m σ H →
      ((ItM K a b).stop i H ∧ D.nx σ H) ∨ ((ItM K a b).go i H ∧ ∃ N : L2.St → Hp → Prop, (∀ σ' H', N σ' H' → ∃ m', m' < m ∧ W (i + 1) m' σ' H') ∧ ∀ v H', (ItM K a b).yld i H v H' → g v σ H' fun σ2 H2 => tb { D with nx := N, ct := N, bk := D.nx } σ2 H2) := by
  refine ⟨fun i m σ H => m = xs.length - i ∧ i ≤ xs.length ∧ Pv i σ H, ⟨xs.length, rfl, Nat.zero_le _, h0⟩, ?_⟩
  rintro i m σ H ⟨rfl, hi, p⟩
  obtain ⟨q1, q2⟩ := hq i σ H p
  rcases Nat.lt_or_ge i xs.length with lt | ge
  · refine .inr ⟨⟨xs, ys, _, _, q1, q2, List.getElem?_eq_getElem lt, List.getElem?_eq_getElem (by omega)⟩, Pv (i + 1), fun _ _ p' => ⟨xs.length - (i + 1), by omega, rfl, lt, p'⟩, ?_⟩
    rintro v H' ⟨T, x, y, rfl, nT, rfl, h1, h2⟩
    exact step i x y T σ H (h1 xs q1) (h2 ys q2) p nT
  · obtain rfl : i = xs.length := by omega
    exact .inl ⟨⟨xs, ys, q1, q2, .inl (Nat.le_refl _)⟩, hd σ H p⟩
/-- a list or a tuple -/
def mkS : Bool → List V → HO
  | true, xs => .lst xs
  | false, xs => .tup xs
theorem for_zipE {K : PySem.W.Frag} {a b : Addr} {kd : Bool} {xs ys : List V} {g : TG} {tb : TS} {D : Ends} {σ : L2.St} {H : Hp} (hl : xs.length = ys.length) (Pv : Nat → L2.St → Hp → Prop) (h0 : Pv 0 σ H) (hq : ∀ i σ H, Pv i σ H → SqL K H a xs ∧ H b = some (mkS kd ys))
    (step : ∀ (i : Nat) (x y : V) (T : Addr) (σ : L2.St) (H : Hp), xs[i]? = some x → ys[i]? = some y → Pv i σ H → H T = none → g (.ref T) σ (upd H T (.tup [x, y])) fun σ2 H2 => tb { D with nx := Pv (i + 1), ct := Pv (i + 1), bk := D.nx } σ2 H2) (hd : ∀ σ H, Pv xs.length σ H → D.nx σ H) :
    (SqL K H b ys ∧ ∃ W : Nat → Nat → L2.St → Hp → Prop, (∃ m, W 0 m σ H) ∧ ∀ i m σ H, W i m σ H →
      ((Itz K a b).stop i H ∧ D.nx σ H) ∨ ((Itz K a b).go i H ∧ ∃ N : L2.St → Hp → Prop, (∀ σ' H', N σ' H' → ∃ m', m' < m ∧ W (i + 1) m' σ' H') ∧ ∀ v H', (Itz K a b).yld i H v H' → g v σ H' fun σ2 H2 => tb { D with nx := N, ct := N, bk := D.nx } σ2 H2)) ∨
    (SqT K H b ys ∧ ∃ W : Nat → Nat → L2.St → Hp → Prop, (∃ m, W 0 m σ H) ∧ ∀ i m σ H, W i m σ H →
      ((ItM K a b).stop i H ∧ D.nx σ H) ∨ ((ItM K a b).go i H ∧ ∃ N : L2.St → Hp → Prop, (∀ σ' H', N σ' H' → ∃ m', m' < m ∧ W (i + 1) m' σ' H') ∧ ∀ v H', (ItM K a b).yld i H v H' → g v σ H' fun σ2 H2 => tb { D with nx := N, ct := N, bk := D.nx } σ2 H2)) := by
  cases kd with
  | true => exact .inl ⟨SqL.of (hq _ _ _ h0).2, RZ.for_zipL hl Pv h0 (fun i σ H h => ⟨(hq i σ H h).1, SqL.of (hq i σ H h).2⟩) step hd⟩
  | false => exact .inr ⟨SqT.of (hq _ _ _ h0).2, for_zipM hl Pv h0 (fun i σ H h => ⟨(hq i σ H h).1, SqT.of (hq i σ H h).2⟩) step hd⟩

/-! ### methods of own classes; own classes made by position -/
structure OwnM (P : Program) (w : World) (K : PySem.W.Frag) (mg : Str → Option Value) (base : Heap) (C : Addr) (m : Str) (k : Nat) (ps : List Str) (dvs : List V) (sp : Sp) : Prop where
  ex : ∃ f fd ds, Cls K C ∧ Meth K C m f ∧ FnOk P w K mg base CX0 k f fd ps sp ∧ Binds K fd ps ds ∧ Vals dvs ds
structure OwnI (P : Program) (w : World) (K : PySem.W.Frag) (mg : Str → Option Value) (base : Heap) (x : Str) (C : Addr) (k : Nat) (ps : List Str) (dvs : List V) (sp : Sp) : Prop where
  ex : ∃ f fd ds, Mk K C f ∧ FnOk P w K mg base CX0 k f fd ps sp ∧ Binds K fd ps ds ∧ Vals dvs ds ∧ mg x = some (.ref C)
section
variable {X : Cx} {C : Addr} {m x : Str} {k : Nat} {ps : List Str} {dvs : List V} {sp : Sp} {o e : Expr} {es : List Expr} {ta : TE} {t : TA} {apos p pos : Pos}
theorem pe_ownM {pl : Sem Bool} (O : OwnM X.prog X.w X.K X.mg X.base C m k ps dvs sp) (hr : Room k X.A) (he : PE X o ta) (ha : PA X (e :: es) t) (hst : starEach (e :: es) X.env = (false, eval e X.env) :: starEach es X.env := by rfl)
    (hpl : (backTo pos (starEach es X.env)).any (·.1) = false := by rfl) (ht : eval (.Call (.Attribute o m apos) (e :: es) [] pos) X.env = (do
      let ov ← eval o X.env
      standAt apos.atName
      let (f, first) ← holding [ov] (getMethod ov m pl)
      callWith pos f first (backTo pos (starEach (e :: es) X.env)) (backToKw pos (keywordEach [] X.env))) := by rfl) :
    PE X (.Call (.Attribute o m apos) (e :: es) [] pos) (tMeth C m sp dvs E0 ta t) := by
  obtain ⟨f, fd, ds, c, hm, F, hb, hd⟩ := O.ex
  exact pe_meth he c hm F hr hb hd pass0 ha hst hpl ht
theorem pe_ownM0 {pl : Sem Bool} (O : OwnM X.prog X.w X.K X.mg X.base C m k ps dvs sp) (hr : Room k X.A) (he : PE X o ta) (ht : eval (.Call (.Attribute o m apos) [] [] pos) X.env = (do
      let ov ← eval o X.env
      standAt apos.atName
      let (f, first) ← holding [ov] (getMethod ov m pl)
      callWith pos f first (backTo pos (starEach [] X.env)) (backToKw pos (keywordEach [] X.env))) := by rfl) :
    PE X (.Call (.Attribute o m apos) [] [] pos) (tMeth C m sp dvs E0 ta tNil) := by
  obtain ⟨f, fd, ds, c, hm, F, hb, hd⟩ := O.ex
  exact pe_meth0 he c hm F hr hb hd pass0 ht
theorem pe_ownI (O : OwnI X.prog X.w X.K X.mg X.base x C k ps dvs sp) (hr : Room (k + 1) X.A) (hg : Gl X x) (ha : PA X (e :: es) t) (hdb : (x == ("__debug__" : Str)) = false := by decide)
    (he : starEach (e :: es) X.env = (false, eval e X.env) :: starEach es X.env := by rfl) (hpl : (backTo pos (starEach es X.env)).any (·.1) = false := by rfl) : PE X (.Call (.Name x p) (e :: es) [] pos) (tMake C sp dvs E0 t) := by
  obtain ⟨f, fd, ds, M, F, hb, hd, hm⟩ := O.ex
  exact pe_make M F hr hg hm hb hd pass0 ha hdb he hpl
end
/-! ### list(d.values()) -/
def tListVals (te : TE) : TE := fun σ H Q => te σ H fun x H1 => ∃ d kvs, x = .ref d ∧ H1 d = some (.dK kvs) ∧ ∀ p, H1 p = none → Q (.ref p) (upd H1 p (.lst (kvs.map (·.2))))
theorem kv_vals {kvs : List (Key × V)} {vs : List (Key × Value)} (r : KV kvs vs) : Vals (kvs.map (·.2)) (vs.map (·.2)) := by
  unfold KV at r
  induction r with
  | nil => exact .nil
  | cons q t ih => exact .cons q.2 ih
section
variable {X : Cx} {e : Expr} {te : TE} {p pos apos cpos : Pos}
theorem pe_listVals (hc : X.calm = true) (he : PE X e te) (hg : Gl X "list") (hm : X.mg "list" = none) (hv : bootBuiltins "list" = some (.type "list")) (hbase : attributeBase e "values" X.env (eval e X.env) = eval e X.env := by rfl) (hline : (apos.endLine == cpos.line) = true := by rfl)
    (hs : starEach [.Call (.Attribute e "values" apos) [] [] cpos] X.env = (false, eval (.Call (.Attribute e "values" apos) [] [] cpos) X.env) :: starEach [] X.env := by rfl) :
    PE X (.Call (.Name "list" p) [.Call (.Attribute e "values" apos) [] [] cpos] [] pos) (tListVals te) := by
  refine ⟨fun pins s σ H Q I hq => ?_⟩
  refine wpAny_Call_Name_kw (ld_blt I hg hm hv ?_)
  refine PyProof.Rows.callWith_type1 ?_ hs rfl
  rw [hs]
  show wpAny _ _ (spliced ((false, eval (.Call (.Attribute e "values" apos) [] [] cpos) X.env) :: backTo pos (starEach [] X.env))) _ _ s
  refine Calls.spliced_cons ?_
  refine wpAny_Call_method (T := "dict") (id := "dict.values") hbase rfl hline PySem.F.plainAttrs_dict PySem.F.slot_dict_values PySem.F.type_dict_values (thn (he.run pins s σ H _ I hq) fun u s1 ⟨x, H1, I1, rx, d, kvs, ex, hd, q⟩ => ?_)
  subst ex
  obtain rfl : u = Value.ref d := rx
  obtain ⟨hz, hs0, vs, kv, hdo⟩ := I1.hok d _ hd
  obtain ⟨ep, hat⟩ := hdo.dictAt
  have lk : kvs.length = vs.length := Paired.length kv
  have I2 : Inv X pins σ H1 { s1 with heap := s1.heap.push { cls := .type "dict_values", data := .fields #[.ref d] } } := I1.kept (t' := s1.toks) fun b ob q => Heap.get?_push_of_some _ q
  refine ⟨hdo.typeIs, hdo.mapOf.noDict, ?_⟩
  show wpAny _ _ (callWith cpos (.builtin "dict.values") [.ref d] [] []) _ X.xe s1
  refine method_meetsIn PySem.F.slot_dict_values PySem.F.entry_dict_values rfl (PySem.evalArgs_none ⟨rfl, hdo.typeIs, PySem.F.args_dict_values_1 _, _, meets_dict_values (mixKind X.prog X.w) d hs0, ⟨vs, hdo⟩, ?_⟩)
  refine Calls.spliced_nil ?_
  refine PySem.W.kdl_call (PySem.W.kdl_values (knd := mixKind X.prog X.w) (r := s1.heap.objs.size) (d := d) (kvs := vs) (ep := ep)) (I1.ok.hd hc) ⟨⟨_, Heap.get?_push_size _ rfl, rfl, rfl⟩, hat.push _⟩ (by omega) fun h' tk acc c' hk hD hacc => ?_
  have ev : acc.toList = vs.map (·.2) := PySem.W.kdl_vals_eq _ (by rw [Array.length_toList]; exact hacc.1) fun j v e => hacc.2 j v (by rw [← Array.getElem?_toList]; exact e)
  have hv : Vals (kvs.map (·.2)) acc.toList := by
    rw [ev]
    exact kv_vals kv
  have I3 := I2.laid (t' := tk) (o := .lst (kvs.map (·.2))) hk (Nat.le_refl _) ⟨by rw [List.length_map]; exact hz, acc.toList, c', hv, by rw [Array.toArray_toList]; exact hD⟩
  exact ⟨.ref _, _, I3, rfl, q _ (I2.hok.fresh (Nat.le_refl _))⟩
end
/-! ### how often a text stands in a list of texts -/
theorem strs_of : ∀ {ys : List Str} {us : List Value}, Vals (ys.map V.str) us → StrsAre us ys
  | [], _, h => by
    cases h
    exact .nil
  | y :: ys, _, h => by
    cases h with
    | cons r rr =>
      obtain ⟨t, rfl⟩ := r
      exact .cons y t (strs_of rr)
theorem count_strs (k : Str) : ∀ {us : List Value} {ys : List Str}, StrsAre us ys → us.countP (isStrOf k) = ys.countP (· == k)
  | _, _, .nil => rfl
  | _, _, .cons n t h => by
    have ih := count_strs k h
    rw [List.countP_cons, List.countP_cons, ih] <;> rfl
def rCntS (K : PySem.W.Frag) : V → List V → Hp → VK → Prop := fun x xs H Q => ∃ (p : Addr) (ys : List Str) (k : Str), x = .ref p ∧ xs = [.str k] ∧ SqL K H p (ys.map V.str) ∧ Q (.int (ys.countP (· == k) : Nat)) H
theorem mt_lcountS {X : Cx} : MtR X "list.count" (rCntS X.K) := by
  intro pins s σ H x xs v us Q I rx rxs h
  obtain ⟨p, ys, k, rfl, rfl, hs, q⟩ := h
  cases rx
  obtain ⟨u, rfl, t, rfl⟩ := rxs.one
  obtain ⟨its, rv, ⟨⟨cls, dd, data, sl⟩, n, ho, hc, hdn, hd⟩, hlen⟩ := I.list hs
  simp only at hc hd
  subst hc hd
  have hi := strs_of rv
  refine call_meets PySem.F.slot_list_count ⟨_, ho, rfl⟩ PySem.F.entry_list_count (PySem.F.args_list_count_2 _ _)
    (SeqAt.list_countAt p its.toArray n dd sl (.str k t) (isStrOf k)) ⟨ho, fun y hy => (eq_isStrOf k t hi y (by simpa using hy)).at _ _, ?_⟩
  have ec : its.toArray.toList.countP (isStrOf k) = ys.countP (· == k) := count_strs k hi
  refine ⟨.int (ys.countP (· == k) : Nat), H, I.tok _, ⟨s.toks, ?_⟩, q⟩
  show Value.int ((its.toArray.toList.countP (isStrOf k) : Nat) : Int) s.toks = Value.int ((ys.countP (· == k) : Nat) : Int) s.toks
  rw [ec]
/-! ### a field with a specification -/
section
variable {X : Cx}
/-- {x:spec}: an int by its specification -/
def tFmtS (te ts : TE) : TE := fun σ H Q => te σ H fun x H1 => ts σ H1 fun y H2 => ∃ (i : Int) (sp : Str), x = .int i ∧ y = .str sp ∧ PyProof.Rows.intSpecOk sp = true ∧ i.natAbs < 1000000000000000000 ∧ sp.length ≤ sizeLine ∧ Q (.str (PyProof.Rows.intSpecTextOf sp i)) H2
theorem pe_fmtS {e spec : Expr} {te ts : TE} {pos : Pos} (he : PE X e te) (hs : PE X spec ts) (z1 : PySem.W.nsOkIn X.K cStatics = true) (z2 : PySem.W.nsIn X.K cStatics "sys.int_max_str_digits" = some none) : PE X (.FormattedValue e (-1) (some spec) pos) (tFmtS te ts) := by
  refine ⟨fun pins s σ H Q I h => ?_⟩
  refine wpAny_FormattedValue_spec (thn (he.run pins s σ H _ I h) fun v s1 ⟨x, H1, I1, r1, q1⟩ => thn (hs.run pins s1 σ H1 _ I1 q1) fun u s2 ⟨y, H2, I2, r2, q2⟩ => ?_)
  obtain ⟨i, sp, rfl, rfl, ok, hi, hz, q⟩ := q2
  obtain ⟨t, rfl⟩ := r1
  obtain ⟨t2, rfl⟩ := r2
  have nd : s2.heap.NoDigits := ⟨_, Heap.Ns.of_isNs (PySem.W.isNs_of_in I2.kIn z1), PySem.W.nsMap_none_of_in I2.kIn z1 z2⟩
  refine ⟨sp, t2, rfl, PyProof.Rows.formatField_int_specOf nd (PyProof.Rows.lt_digitLimit_of_lt hi) ok (fun W hW f => ?_) hz⟩
  exact ⟨.str (PyProof.Rows.intSpecTextOf sp i), H2, I2.tok _, ⟨_, rfl⟩, q⟩
end
theorem spec3 : ((List.range 2000).all fun n => decide (PyProof.Rows.intSpecTextOf ">3" (n : Nat) = Txt.rjust (Str.ofString (toString ((n : Nat) : Int))) 3) && decide ((Txt.rjust (Str.ofString (toString ((n : Nat) : Int))) 3).length ≤ 10)) = true := by decide +kernel
theorem spec3_at {n : Nat} (h : n < 2000) : PyProof.Rows.intSpecTextOf ">3" (n : Nat) = Txt.rjust (Str.ofString (toString ((n : Nat) : Int))) 3 ∧ (Txt.rjust (Str.ofString (toString ((n : Nat) : Int))) 3).length ≤ 10 := by
  have := List.all_eq_true.mp spec3 n (List.mem_range.mpr h)
  rw [Bool.and_eq_true] at this
  exact ⟨of_decide_eq_true this.1, of_decide_eq_true this.2⟩
theorem spec3_ok : PyProof.Rows.intSpecOk ">3" = true := by decide +kernel
/-! ### x, *ys = a tuple -/
section
variable {prog : Program} {w : World} {A : Around} {E : Value → Shared → Prop} {s : Shared}
theorem star_back {t : Addr} {items : Array Value} {Q : List Value → Shared → Prop} (ht : IsTup s.heap t items) (hh : A.handled = none) (h1 : 1 ≤ items.size) (hz : items.size ≤ 16384)
    (h : ∀ (h' : Heap) (tk : Nat), (∀ b o, s.heap.get? b = some o → h'.get? b = some o) →
      Q (items.toList.take 1 ++ [.ref h'.objs.size]) { s with heap := h'.push { cls := .type "list", data := .seq (items.toList.drop 1).toArray }, toks := tk }) :
    wpAny (model prog w) A (unpackItems (.ref t) 2 (some 1)) Q E s := by
  have ht2 := ht
  obtain ⟨ob, hob, _⟩ := ht2
  have sz := Heap.lt_size hob
  have ne : t ≠ s.heap.objs.size := Nat.ne_of_lt sz
  have ln : items.toList.length = items.size := Array.length_toList
  unfold unpackItems notIterableAtAll
  refine wpAny_bind (wpAny_bind (wpAny_specialOf ht.typeIs slot_tuple_iter.lookup (wpAny_pure ?_)))
  rw [if_neg (by decide)]
  refine wpAny_bind (wpAny_holding (iter_tuple ht (wpAny_bind (wpAny_holding (draw_tuple ne 1 0 _ _ ⟨_, Heap.get?_push_size _ rfl, rfl, rfl⟩ (ht.push _) (by omega) fun h2 it2 sm2 => ?_)))))
  have ht3 : IsTup h2 t items := (ht.push _).extBut sm2.extBut ne
  rw [Nat.zero_add] at it2
  obtain ⟨oi, hoi, _⟩ := id it2
  obtain ⟨ol, hol, _⟩ := id ht3
  rw [List.drop_zero]
  have fl : (items.toList.take 1).length = 1 := by rw [List.length_take, ln]; omega
  rw [if_neg (by rw [fl]; omega)]
  refine wpAny_bind (wpAny_holding (PySem.W.kun_collect (s := { s with heap := h2 }) (T := "tuple_iterator") (items := items) (.inr (.inr (.inr rfl))) (Walks.tuple (A := A.in1) hh s.heap.objs.size t ne items) (fun _ _ z => z.1.typeIs) (k := 1) h1 ⟨it2, ht3⟩ (Heap.lt_size hoi) (Heap.lt_size hol) (fun h3 tk kp => ?_) (by rw [sizeLine_eq]; omega)))
  have e3 : (items.toList.drop 1).length - (2 - 1 - 1) = (items.toList.drop 1).length := by omega
  show wpAny _ _ (if (items.toList.drop 1).length < 2 - 1 - 1 then _ else _) _ _ _
  rw [if_neg (by omega)]
  refine wpAny_bind (wpAny_newList (wpAny_pure ?_) ?_)
  · show Q (items.toList.take 1 ++ [Value.ref h3.objs.size] ++ (items.toList.drop 1).drop ((items.toList.drop 1).length - (2 - 1 - 1))) _
    rw [e3, List.drop_length, List.append_nil, List.take_length]
    exact h h3 tk fun b o e => kp b o (Nat.ne_of_lt (Heap.lt_size e)) (sm2.extBut b o (Nat.ne_of_lt (Heap.lt_size e)) (Heap.get?_push_of_some _ e))
  · rw [List.length_take, List.length_drop, ln, sizeLine_eq]
    omega
end
def gStarE (K : PySem.W.Frag) (t : TGs) : TG := fun v σ H Q => ∃ (a : Addr) (y : V) (xs : List V), v = .ref a ∧ SqT K H a (y :: xs) ∧ xs.length ≤ 16000 ∧ ∀ D, H D = none → t [y, .ref D] σ (upd H D (.lst xs)) Q
theorem pg_starE {X : Cx} {e f : Expr} {k : Nat} {p pos : Pos} {t : TGs} (hc : X.calm = true) (h : PGs X [e, f] t)
    (hn : (assignEach [e, .Starred f p] X.env).length = 2 := by rfl) (hst : (assignEach [e, .Starred f p] X.env).findIdx? (·.1) = some 1 := by rfl)
    (hm : (assignEach [e, .Starred f p] X.env).map (·.2) = (assignEach [e, f] X.env).map (·.2) := by rfl) : PG X (.Tuple [e, .Starred f p] k pos) (gStarE X.K t) := by
  refine ⟨fun pins s σ H v u Q I r hw => ?_⟩
  obtain ⟨a, y, xs, e1, hq, hz, hw⟩ := hw
  subst e1
  cases r
  obtain ⟨its, rv, ht, hz2⟩ := I.tuple hq
  cases rv with
  | @cons _ u0 _ us r1 rr =>
    have lu : xs.length = us.length := rr.length
    have sz : (u0 :: us).toArray.size = us.length + 1 := by simp
    rw [assign_Tuple]
    refine wpAny_bind (wpAny_standAt ?_)
    unfold unpack
    rw [hn, hst]
    refine wpAny_bind (wpAny_holding (star_back ht (I.ok.hd hc) (by omega) (by omega) fun h' tk kp => ?_))
    rw [hm]
    show wpAny _ _ (assignInOrder _ [u0, .ref h'.objs.size]) _ _ _
    have I1 : Inv X pins σ H { s with heap := h', toks := tk } := I.kept (t' := tk) kp
    have hf : H h'.objs.size = none := I1.hok.fresh (Nat.le_refl _)
    have I2 : Inv X pins σ (upd H h'.objs.size (.lst xs)) { s with heap := h'.push { cls := .type "list", data := .seq us.toArray }, toks := tk } := I1.laid (t' := tk) (fun b u q => Heap.get?_push_of_some _ q) (Nat.le_refl _) ⟨by rw [sizeLine_eq]; omega, us, 0, rr, Heap.get?_push_size _ rfl⟩
    exact h.run pins _ σ _ [y, .ref h'.objs.size] [u0, .ref h'.objs.size] Q I2 (.cons r1 (.cons rfl .nil)) (hw _ hf)

/-! ### comprehensions whose elements are told one by one -/
theorem cr_sumK {X : Cx} {K' : PySem.W.Frag} (h : X.K = K') (hc : X.calm = true) : CallR X (.builtin "sum") (rSum K') := by
  subst h
  exact cr_sum hc
theorem ix_tupK {X : Cx} {K' : PySem.W.Frag} (h : X.K = K') : IxR X (rIxT K') := by
  subst h
  exact ix_tup
theorem op_in_seqK {X : Cx} {K' : PySem.W.Frag} (h : X.K = K') : OpR X (compareOp .In) (rIn K' false) := by
  subst h
  exact op_in_seq
theorem pe_never {X : Cx} {e : Expr} : PE X e (fun _ _ _ => False) := ⟨fun _ _ _ _ _ _ h => h.elim⟩
/-- the heap without one place -/
def cutH (D : Addr) (H : Hp) : Hp := fun b => if b = D then none else H b
/-- what is new -/
def difH (H H' : Hp) : Hp := fun b => match H b with | none => H' b | some _ => none
theorem cutH_ne {D b : Addr} {H : Hp} (h : b ≠ D) : cutH D H b = H b := if_neg h
theorem cutH_sub (D : Addr) (H : Hp) : Same (cutH D H) H := fun b o e => by
  unfold cutH at e
  split at e
  · cases e
  · exact e
theorem difH_at {H H' : Hp} {b : Addr} (h : H b = none) : difH H H' b = H' b := by
  unfold difH
  rw [h]
theorem difH_some {H H' : Hp} {b : Addr} {o : HO} (e : difH H H' b = some o) : H b = none ∧ H' b = some o := by
  unfold difH at e
  split at e
  · rename_i h
    exact ⟨h, e⟩
  · cases e
theorem difH_sub (H H' : Hp) : Same (difH H H') H' := fun _ _ e => (difH_some e).2
/-- what is new later on is new to what was ahead of it -/
theorem difH_from {H H1 H2 : Hp} (s : Same H H1) : Same (difH H1 H2) (difH H H2) := fun b o e => by
  obtain ⟨e1, e2⟩ := difH_some e
  rw [difH_at (s.free e1)]
  exact e2
theorem difH_to {H H1 H2 : Hp} (s : Same H1 H2) : Same (difH H H1) (difH H H2) := fun b o e => by
  obtain ⟨e1, e2⟩ := difH_some e
  rw [difH_at e1]
  exact s _ _ e2
theorem cut_from {H1 H2 H4 : Hp} {D : Addr} {o o' : HO} (s : Same H1 H2) (eD : H2 D = some o) : Same (difH H2 H4) (cutH D (difH H1 (upd H4 D o'))) := fun b u e => by
  obtain ⟨e1, e2⟩ := difH_some e
  have nb : b ≠ D := fun z => by
    rw [z, eD] at e1
    cases e1
  rw [cutH_ne nb, difH_at (s.free e1), upd_ne nb]
  exact e2
theorem cut_to {H1 H2 H4 : Hp} {D : Addr} {o' : HO} (s : Same H2 H4) : Same (cutH D (difH H1 H2)) (cutH D (difH H1 (upd H4 D o'))) := fun b u e => by
  have nb : b ≠ D := fun z => by
    unfold cutH at e
    rw [if_pos z] at e
    cases e
  rw [cutH_ne nb] at e
  obtain ⟨e1, e2⟩ := difH_some e
  rw [cutH_ne nb, difH_at e1, upd_ne nb]
  exact s _ _ e2
theorem paired_imp {α β : Type} {F G : α → β → Prop} (h : ∀ x y, F x y → G x y) : ∀ {xs : List α} {ys : List β}, Paired F xs ys → Paired G xs ys
  | _, _, .nil => .nil
  | _, _, .cons a r => .cons (h _ _ a) (paired_imp h r)
theorem paired_map {α β : Type} {f : α → β} : ∀ {xs : List α} {ys : List β}, Paired (fun x y => y = f x) xs ys → ys = xs.map f
  | _, _, .nil => rfl
  | _, _, .cons a r => by rw [a, paired_map r, List.map_cons]
theorem paired_len {α β : Type} {F : α → β → Prop} : ∀ {xs : List α} {ys : List β}, Paired F xs ys → xs.length = ys.length
  | _, _, .nil => rfl
  | _, _, .cons _ r => congrArg Nat.succ (paired_len r)
section
variable {K : PySem.W.Frag} {a D : Addr} {xs : List V} {j : Nat} {te : TE} {vs : List Nat} {σ : L2.St} {H1 : Hp} {Qd : Hp → Prop}
/-- what has been made so far: the i-th is as R says, in what is new -/
def Made (R : Nat → Hp → V → Prop) (D : Addr) (H1 : Hp) (i : Nat) (H : Hp) : Prop := Same H1 H ∧ ∃ ys : List V, H D = some (.lst ys) ∧ ys.length = i ∧ ∀ j y, ys[j]? = some y → R j (cutH D (difH H1 H)) y
/-- what one turn asks, whichever the walk is -/
theorem lc_turn (R : Nat → Hp → V → Prop) (mono : ∀ {H H' : Hp} {i : Nat} {y : V}, Same H H' → R i H y → R i H' y) (nD : H1 D = none) (hz : xs.length < sizeLine) (hw : ∀ x, wipe ((wipe σ vs).set j (some x)) vs = wipe σ vs)
    (each : ∀ (i : Nat) (x : V) (H2 : Hp) (Qy : VK), xs[i]? = some x → Same H1 H2 → (∀ y H4, Same H2 H4 → R i (difH H2 H4) y → Qy y H4) → te ((wipe σ vs).set j (some x)) H2 Qy) {i : Nat} {x : V} {H : Hp} (hx : xs[i]? = some x)
    (h : Made R D H1 i H) :
    gName j x (wipe σ vs) H fun σ2 H2 => wipe σ2 vs = wipe σ vs ∧ tYes σ2 H2 fun b H3 =>
      if b = true then te σ2 H3 fun y H4 => ∃ acc, H4 D = some (.lst acc) ∧ acc.length < sizeLine ∧ Made R D H1 (i + 1) (upd H4 D (.lst (acc ++ [y]))) else Made R D H1 (i + 1) H3 := by
  obtain ⟨s2, ys, eD, hl, pr⟩ := h
  refine ⟨hw x, ?_⟩
  unfold tYes
  show ite (true = true) _ _
  rw [if_pos rfl]
  have hi : i < xs.length := (List.getElem?_eq_some_iff.mp hx).1
  refine each i x H _ hx s2 fun y H4 s4 r => ⟨ys, s4 _ _ eD, by omega, fun b o e => ?_, ys ++ [y], upd_same, by rw [List.length_append, hl]; rfl, fun k z hk => ?_⟩
  · rw [upd_ne (ne_of_none e nD)]
    exact s4 _ _ (s2 _ _ e)
  · by_cases hlt : k < ys.length
    · rw [List.getElem?_append_left hlt] at hk
      exact mono (cut_to s4) (pr k z hk)
    · have hk2 : k < (ys ++ [y]).length := (List.getElem?_eq_some_iff.mp hk).1
      rw [List.length_append, List.length_singleton] at hk2
      have ek : k = i := by omega
      rw [ek, ← hl, List.getElem?_append_right (Nat.le_refl _), Nat.sub_self] at hk
      cases hk
      rw [ek]
      exact mono (cut_from s2 eD) r
theorem lc_rel (R : Nat → Hp → V → Prop) (mono : ∀ {H H' : Hp} {i : Nat} {y : V}, Same H H' → R i H y → R i H' y) (hq : SqL K H1 a xs) (nD : H1 D = none) (hz : xs.length < sizeLine) (hw : ∀ x, wipe ((wipe σ vs).set j (some x)) vs = wipe σ vs)
    (each : ∀ (i : Nat) (x : V) (H2 : Hp) (Qy : VK), xs[i]? = some x → Same H1 H2 → (∀ y H4, Same H2 H4 → R i (difH H2 H4) y → Qy y H4) → te ((wipe σ vs).set j (some x)) H2 Qy)
    (fin : ∀ (H' : Hp) (ys : List V), Same H1 H' → H' D = some (.lst ys) → ys.length = xs.length → (∀ j y, ys[j]? = some y → R j (cutH D (difH H1 H')) y) → Qd H') :
    ∃ W : Nat → Nat → Hp → Prop, (∃ m, W 0 m (upd H1 D (.lst []))) ∧ ∀ i m H, W i m H →
      ((Itl K a).stop i H ∧ Qd H) ∨ ((Itl K a).go i H ∧ ∃ Nx : Hp → Prop, (∀ H', Nx H' → ∃ m', m' < m ∧ W (i + 1) m' H') ∧ ∀ x H', (Itl K a).yld i H x H' → gName j x (wipe σ vs) H' fun σ2 H2 => wipe σ2 vs = wipe σ vs ∧ tYes σ2 H2 fun b H3 =>
        if b = true then te σ2 H3 fun y H4 => ∃ acc, H4 D = some (.lst acc) ∧ acc.length < sizeLine ∧ Nx (upd H4 D (.lst (acc ++ [y]))) else Nx H3) :=
  lc_list (K := K) (a := a) (xs := xs) (Made R D H1) ⟨same_new nD, [], upd_same, rfl, fun j y h => by cases h⟩ (fun i H _ h => h.1.seq hq) (fun i x H hx h => lc_turn R mono nD hz hw each hx h) (fun H ⟨s2, ys, eD, hl, pr⟩ => fin H ys s2 eD hl pr)
theorem lc_relT (R : Nat → Hp → V → Prop) (mono : ∀ {H H' : Hp} {i : Nat} {y : V}, Same H H' → R i H y → R i H' y) (hq : ∀ H2, Same H1 H2 → SqT K H2 a xs) (nD : H1 D = none) (hz : xs.length < sizeLine) (hw : ∀ x, wipe ((wipe σ vs).set j (some x)) vs = wipe σ vs)
    (each : ∀ (i : Nat) (x : V) (H2 : Hp) (Qy : VK), xs[i]? = some x → Same H1 H2 → (∀ y H4, Same H2 H4 → R i (difH H2 H4) y → Qy y H4) → te ((wipe σ vs).set j (some x)) H2 Qy)
    (fin : ∀ (H' : Hp) (ys : List V), Same H1 H' → H' D = some (.lst ys) → ys.length = xs.length → (∀ j y, ys[j]? = some y → R j (cutH D (difH H1 H')) y) → Qd H') :
    ∃ W : Nat → Nat → Hp → Prop, (∃ m, W 0 m (upd H1 D (.lst []))) ∧ ∀ i m H, W i m H →
      ((Itt K a).stop i H ∧ Qd H) ∨ ((Itt K a).go i H ∧ ∃ Nx : Hp → Prop, (∀ H', Nx H' → ∃ m', m' < m ∧ W (i + 1) m' H') ∧ ∀ x H', (Itt K a).yld i H x H' → gName j x (wipe σ vs) H' fun σ2 H2 => wipe σ2 vs = wipe σ vs ∧ tYes σ2 H2 fun b H3 =>
        if b = true then te σ2 H3 fun y H4 => ∃ acc, H4 D = some (.lst acc) ∧ acc.length < sizeLine ∧ Nx (upd H4 D (.lst (acc ++ [y]))) else Nx H3) :=
  lc_tup (K := K) (a := a) (xs := xs) (Made R D H1) ⟨same_new nD, [], upd_same, rfl, fun j y h => by cases h⟩ (fun i H _ h => hq H h.1) (fun i x H hx h => lc_turn R mono nD hz hw each hx h) (fun H ⟨s2, ys, eD, hl, pr⟩ => fin H ys s2 eD hl pr)
end
theorem paired_of {α β : Type} {F : α → β → Prop} : ∀ {xs : List α} {ys : List β}, xs.length = ys.length → (∀ (i : Nat) (x : α) (y : β), xs[i]? = some x → ys[i]? = some y → F x y) → Paired F xs ys
  | [], [], _, _ => .nil
  | x :: xs, y :: ys, hl, h => .cons (h 0 x y rfl rfl) (paired_of (by simpa using hl) fun i u v hu hv => h (i + 1) u v hu hv)
  | [], _ :: _, hl, _ => by simp at hl
  | _ :: _, [], hl, _ => by simp at hl
theorem paired_at {α β : Type} {F : α → β → Prop} : ∀ {xs : List α} {ys : List β}, Paired F xs ys → ∀ {i : Nat} {x : α} {y : β}, xs[i]? = some x → ys[i]? = some y → F x y
  | _, _, .nil, i, x, y, h, _ => by cases h
  | _, _, .cons r t, 0, x, y, h, k => by
    cases h
    cases k
    exact r
  | _, _, .cons r t, i + 1, x, y, h, k => paired_at t (i := i) h k
/-- a list of what f tells of the items -/
theorem map_of {α : Type} {f : α → V} {xs : List α} {ys : List V} (hl : ys.length = xs.length) (h : ∀ (j : Nat) (y : V), ys[j]? = some y → ∀ x, xs[j]? = some x → y = f x) : ys = xs.map f := by
  refine List.ext_getElem? fun i => ?_
  rw [List.getElem?_map]
  cases e : xs[i]? with
  | none =>
    have : xs.length ≤ i := List.getElem?_eq_none_iff.mp e
    exact List.getElem?_eq_none (by omega)
  | some x =>
    have hi : i < ys.length := by
      have := (List.getElem?_eq_some_iff.mp e).1
      omega
    rw [List.getElem?_eq_getElem hi, h i _ (List.getElem?_eq_getElem hi) x e]
    rfl
/-- a comprehension over a dict's keys, as lc_list -/
theorem lc_keys {d : Addr} {od : Obj} {kvs : List (Key × V)} {g : TG} {tt : TT} {te : TE} {vs : List Nat} {σ : L2.St} {H1 : Hp} {D : Addr} {Qd : Hp → Prop} (Pv : Nat → Hp → Prop) (h0 : Pv 0 (upd H1 D (.lst []))) (hq : ∀ i H, Pv i H → H d = some (.frz od (.dK kvs)))
    (hs : ∀ i k v H, kvs[i]? = some (k, v) → Pv i H → g (kV k) (wipe σ vs) H fun σ2 H2 => wipe σ2 vs = wipe σ vs ∧ tt σ2 H2 fun b H3 =>
      if b = true then te σ2 H3 fun y H4 => ∃ acc, H4 D = some (.lst acc) ∧ acc.length < sizeLine ∧ Pv (i + 1) (upd H4 D (.lst (acc ++ [y]))) else Pv (i + 1) H3) (hd : ∀ H, Pv kvs.length H → Qd H) :
    ∃ W : Nat → Nat → Hp → Prop, (∃ m, W 0 m (upd H1 D (.lst []))) ∧ ∀ i m H, W i m H →
      ((Itk d od kvs).stop i H ∧ Qd H) ∨ ((Itk d od kvs).go i H ∧ ∃ Nx : Hp → Prop, (∀ H', Nx H' → ∃ m', m' < m ∧ W (i + 1) m' H') ∧ ∀ x H', (Itk d od kvs).yld i H x H' → g x (wipe σ vs) H' fun σ2 H2 => wipe σ2 vs = wipe σ vs ∧ tt σ2 H2 fun b H3 =>
        if b = true then te σ2 H3 fun y H4 => ∃ acc, H4 D = some (.lst acc) ∧ acc.length < sizeLine ∧ Nx (upd H4 D (.lst (acc ++ [y]))) else Nx H3) := by
  refine ⟨fun i m H => m = kvs.length - i ∧ i ≤ kvs.length ∧ Pv i H, ⟨kvs.length, rfl, Nat.zero_le _, h0⟩, ?_⟩
  rintro i m H ⟨rfl, hi, p⟩
  have q := hq i H p
  by_cases hlt : i < kvs.length
  · refine .inr ⟨⟨q, hlt⟩, Pv (i + 1), fun H' p' => ⟨kvs.length - (i + 1), by omega, rfl, hlt, p'⟩, ?_⟩
    rintro v H' ⟨e1, k, v2, hk, e2⟩
    subst e1 e2
    exact hs i k v2 _ hk p
  · have e : i = kvs.length := by omega
    subst e
    exact .inl ⟨⟨q, Nat.le_refl _⟩, hd H p⟩
/-- a comprehension over a locked dict's keys with a test that writes nothing: the keys for which it is so -/
theorem lc_keysF {d : Addr} {od : Obj} {kvs : List (Key × V)} {j : Nat} {tt : TT} {vs : List Nat} {σ : L2.St} {H1 : Hp} {D : Addr} {Qd : Hp → Prop} (p : Key → V → Bool) (hd : H1 d = some (.frz od (.dK kvs))) (nD : H1 D = none) (hz : kvs.length < sizeLine) (hw : ∀ x, wipe ((wipe σ vs).set j (some x)) vs = wipe σ vs)
    (hj : ∀ x : V, ((wipe σ vs).set j (some x))[j]? = some (some x))
    (each : ∀ (i : Nat) (k : Key) (v : V) (H2 : Hp) (Qb : Bool → Hp → Prop), kvs[i]? = some (k, v) → Same H1 H2 → Qb (p k v) H2 → tt ((wipe σ vs).set j (some (kV k))) H2 Qb)
    (fin : ∀ H' : Hp, Same H1 H' → (∀ b, b ≠ D → H' b = H1 b) → H' D = some (.lst ((kvs.filter fun q => p q.1 q.2).map fun q => kV q.1)) → Qd H') :
    ∃ W : Nat → Nat → Hp → Prop, (∃ m, W 0 m (upd H1 D (.lst []))) ∧ ∀ i m H, W i m H →
      ((Itk d od kvs).stop i H ∧ Qd H) ∨ ((Itk d od kvs).go i H ∧ ∃ Nx : Hp → Prop, (∀ H', Nx H' → ∃ m', m' < m ∧ W (i + 1) m' H') ∧ ∀ x H', (Itk d od kvs).yld i H x H' → gName j x (wipe σ vs) H' fun σ2 H2 => wipe σ2 vs = wipe σ vs ∧ tt σ2 H2 fun b H3 =>
        if b = true then tVar j σ2 H3 fun y H4 => ∃ acc, H4 D = some (.lst acc) ∧ acc.length < sizeLine ∧ Nx (upd H4 D (.lst (acc ++ [y]))) else Nx H3) := by
  have dD : d ≠ D := ne_of_none hd nD
  refine lc_keys (fun i H => (∀ b, b ≠ D → H b = H1 b) ∧ H D = some (.lst (((kvs.take i).filter fun q => p q.1 q.2).map fun q => kV q.1))) ⟨fun b nb => upd_ne nb, upd_same⟩ (fun i H h => by rw [h.1 d dD]; exact hd) (fun i k v H hk h => ?_) (fun H h => ?_)
  · refine ⟨hw _, each i k v H _ hk (fun b o e => by rw [h.1 b (ne_of_none e nD)]; exact e) ?_⟩
    have lt : (kvs.take (i + 1)).filter (fun q => p q.1 q.2) = (kvs.take i).filter (fun q => p q.1 q.2) ++ (if p k v then [(k, v)] else []) := take_filter (fun q : Key × V => p q.1 q.2) hk
    cases hp : p k v with
    | true =>
      rw [if_pos rfl]
      refine ⟨_, hj _, _, h.2, ?_, fun b nb => by rw [upd_ne nb]; exact h.1 b nb, ?_⟩
      · rw [List.length_map]
        exact Nat.lt_of_le_of_lt (Nat.le_trans (List.length_filter_le _ _) (List.length_take_le' _ _)) hz
      · rw [upd_same, lt, hp, List.map_append]
        rfl
    | false =>
      rw [if_neg Bool.false_ne_true]
      refine ⟨h.1, ?_⟩
      rw [h.2, lt, hp]
      show _ = some (HO.lst ((_ ++ []).map _))
      rw [List.append_nil]
  · rw [List.take_length] at h
    exact fin H (fun b o e => by rw [h.1 b (ne_of_none e nD)]; exact e) h.1 h.2
structure Txt_Test (K : PySem.W.Frag) (mg : Str → Option Value) (C : Addr) : Prop where
  cl : Cls K C
  mgC : mg "Test" = some (.ref C)
  ha : PySem.W.findIn K (.ref C) "__class__" = some (some (.builtin "object.__class__"))
  hn : PySem.W.specialIn K (.builtin "object.__class__") "__get__" = some (some (.builtin "getset_descriptor.__get__"))
  ht : PySem.W.takesIn K (.builtin "object.__class__") = some true
  hm : PySem.W.mroIn K C (.type "object") = some true
  ko : PySem.W.kitOne K (.ref C) (.ref C) = some true
  n__names : NoAttr K C "_names"
  n__examples : NoAttr K C "_examples"
  n_name : NoAttr K C "name"
  n_file : NoAttr K C "file"
  n_line : NoAttr K C "line"
structure Txt_Runner (K : PySem.W.Frag) (mg : Str → Option Value) (C : Addr) : Prop where
  cl : Cls K C
  mgC : mg "Runner" = some (.ref C)
  ha : PySem.W.findIn K (.ref C) "__class__" = some (some (.builtin "object.__class__"))
  hn : PySem.W.specialIn K (.builtin "object.__class__") "__get__" = some (some (.builtin "getset_descriptor.__get__"))
  ht : PySem.W.takesIn K (.builtin "object.__class__") = some true
  hm : PySem.W.mroIn K C (.type "object") = some true
  ko : PySem.W.kitOne K (.ref C) (.ref C) = some true
  n__play : NoAttr K C "_play"
  n__flags : NoAttr K C "_flags"
  n__counts : NoAttr K C "_counts"

/-! ### dict comprehensions over texts or keys -/
theorem valV_none {kvs : List (Key × V)} {k : Key} (h : k ∉ kvs.map (·.1)) : valV kvs k = none := by
  cases e : valV kvs k with
  | none => rfl
  | some v =>
    unfold valV at e
    obtain ⟨q, h1, h2⟩ := Option.map_eq_some_iff.mp e
    have h3 := List.find?_some h1
    exact absurd (List.mem_map.mpr ⟨q, List.mem_of_find?_eq_some h1, of_decide_eq_true h3⟩) h
theorem valV_ix : ∀ {kvs : List (Key × V)} {i : Nat} {k : Key} {v : V}, (kvs.map (·.1)).Nodup → kvs[i]? = some (k, v) → valV kvs k = some v
  | q :: r, 0, k, v, _, h => by
    cases h
    exact valV_pos rfl
  | q :: r, i + 1, k, v, nd, h => by
    have h : r[i]? = some (k, v) := h
    have hn := List.nodup_cons.mp (show (q.1 :: r.map (·.1)).Nodup from nd)
    rw [valV_neg (fun z => hn.1 (by rw [z]; exact List.mem_map.mpr ⟨(k, v), List.mem_of_getElem? h, rfl⟩))]
    exact valV_ix hn.2 h
def MadeD (R : Nat → Hp → V → Prop) (ks : List Key) (D : Addr) (H1 : Hp) (i : Nat) (H : Hp) : Prop :=
  Same H1 H ∧ ∃ kvs : List (Key × V), H D = some (.dK kvs) ∧ kvs.map (·.1) = ks.take i ∧ ∀ j q, kvs[j]? = some q → R j (cutH D (difH H1 H)) q.2
section
variable {a D : Addr} {ks : List Key} {j : Nat} {tv : TE} {vs : List Nat} {σ : L2.St} {H1 : Hp} {Qd : Hp → Prop}
theorem dc_turn (R : Nat → Hp → V → Prop) (mono : ∀ {H H' : Hp} {i : Nat} {y : V}, Same H H' → R i H y → R i H' y) (nd : ks.Nodup) (nD : H1 D = none) (hz : ks.length < sizeLine) (hw : ∀ x, wipe ((wipe σ vs).set j (some x)) vs = wipe σ vs) (hj : ∀ x : V, ((wipe σ vs).set j (some x))[j]? = some (some x))
    (each : ∀ (i : Nat) (k : Key) (H2 : Hp) (Qy : VK), ks[i]? = some k → Same H1 H2 → (∀ y H4, Same H2 H4 → R i (difH H2 H4) y → Qy y H4) → tv ((wipe σ vs).set j (some (kV k))) H2 Qy) {i : Nat} {k : Key} {H : Hp} (hk : ks[i]? = some k)
    (h : MadeD R ks D H1 i H) :
    gName j (kV k) (wipe σ vs) H fun σ2 H2 => wipe σ2 vs = wipe σ vs ∧ tYes σ2 H2 fun b H3 =>
      if b = true then tVar j σ2 H3 fun y H4 => tv σ2 H4 fun z H5 => ∃ kvs k, y = kV k ∧ H5 D = some (.dK kvs) ∧ kvs.length < sizeLine ∧ MadeD R ks D H1 (i + 1) (upd H5 D (.dK (putK kvs k z))) else MadeD R ks D H1 (i + 1) H3 := by
  obtain ⟨s2, kvs, eD, hl, pr⟩ := h
  have hi : i < ks.length := (List.getElem?_eq_some_iff.mp hk).1
  have le : kvs.length = i := by
    have e := congrArg List.length hl
    rw [List.length_map, List.length_take] at e
    omega
  refine ⟨hw _, ?_⟩
  unfold tYes
  show ite (true = true) _ _
  rw [if_pos rfl]
  refine ⟨kV k, hj _, each i k H _ hk s2 fun z H5 s5 r => ⟨kvs, k, rfl, s5 _ _ eD, by omega, fun b o e => ?_, kvs ++ [(k, z)], ?_, ?_, fun n q hq => ?_⟩⟩
  · rw [upd_ne (ne_of_none e nD)]
    exact s5 _ _ (s2 _ _ e)
  · have : k ∉ kvs.map (·.1) := by
      rw [hl]
      intro hm
      obtain ⟨m, hm1, hm2⟩ := List.mem_iff_getElem.mp hm
      rw [List.length_take] at hm1
      rw [List.getElem_take] at hm2
      obtain ⟨hi2, e2⟩ := List.getElem?_eq_some_iff.mp hk
      have := (List.getElem_inj nd).mp (hm2.trans e2.symm)
      omega
    rw [upd_same, putK_new z (valV_none this)]
  · rw [List.map_append, hl, List.take_add_one, hk]
    rfl
  · by_cases hlt : n < kvs.length
    · rw [List.getElem?_append_left hlt] at hq
      exact mono (cut_to s5) (pr n q hq)
    · have hk2 : n < (kvs ++ [(k, z)]).length := (List.getElem?_eq_some_iff.mp hq).1
      rw [List.length_append, List.length_singleton] at hk2
      have ek : n = i := by omega
      rw [ek, ← le, List.getElem?_append_right (Nat.le_refl _), Nat.sub_self] at hq
      cases hq
      rw [ek]
      exact mono (cut_from s2 eD) r
/-- over a locked dict -/
theorem dc_keys {d : Addr} {od : Obj} {kvs : List (Key × V)} (R : Nat → Hp → V → Prop) (mono : ∀ {H H' : Hp} {i : Nat} {y : V}, Same H H' → R i H y → R i H' y) (nd : (kvs.map (·.1)).Nodup) (hd : H1 d = some (.frz od (.dK kvs))) (nD : H1 D = none) (hz : kvs.length < sizeLine) (hw : ∀ x, wipe ((wipe σ vs).set j (some x)) vs = wipe σ vs) (hj : ∀ x : V, ((wipe σ vs).set j (some x))[j]? = some (some x))
    (each : ∀ (i : Nat) (k : Key) (v : V) (H2 : Hp) (Qy : VK), kvs[i]? = some (k, v) → Same H1 H2 → (∀ y H4, Same H2 H4 → R i (difH H2 H4) y → Qy y H4) → tv ((wipe σ vs).set j (some (kV k))) H2 Qy)
    (fin : ∀ (H' : Hp) (ds : List (Key × V)), Same H1 H' → H' D = some (.dK ds) → ds.map (·.1) = kvs.map (·.1) → (∀ i q, ds[i]? = some q → R i (cutH D (difH H1 H')) q.2) → Qd H') :
    ∃ W : Nat → Nat → Hp → Prop, (∃ m, W 0 m (upd H1 D (.dK []))) ∧ ∀ i m H, W i m H →
      ((Itk d od kvs).stop i H ∧ Qd H) ∨ ((Itk d od kvs).go i H ∧ ∃ Nx : Hp → Prop, (∀ H', Nx H' → ∃ m', m' < m ∧ W (i + 1) m' H') ∧ ∀ x H', (Itk d od kvs).yld i H x H' → gName j x (wipe σ vs) H' fun σ2 H2 => wipe σ2 vs = wipe σ vs ∧ tYes σ2 H2 fun b H3 =>
        if b = true then tVar j σ2 H3 fun y H4 => tv σ2 H4 fun z H5 => ∃ kvs k, y = kV k ∧ H5 D = some (.dK kvs) ∧ kvs.length < sizeLine ∧ Nx (upd H5 D (.dK (putK kvs k z))) else Nx H3) := by
  refine ⟨fun i m H => m = kvs.length - i ∧ i ≤ kvs.length ∧ MadeD R (kvs.map (·.1)) D H1 i H, ⟨kvs.length, rfl, Nat.zero_le _, same_new nD, [], upd_same, rfl, fun j q h => by cases h⟩, ?_⟩
  rintro i m H ⟨rfl, hi, p⟩
  have q : H d = some (.frz od (.dK kvs)) := p.1 _ _ hd
  by_cases hlt : i < kvs.length
  · refine .inr ⟨⟨q, hlt⟩, MadeD R (kvs.map (·.1)) D H1 (i + 1), fun H' p' => ⟨kvs.length - (i + 1), by omega, rfl, hlt, p'⟩, ?_⟩
    rintro v H' ⟨e1, k, v2, hk, e2⟩
    subst e1 e2
    have hk2 : (kvs.map (·.1))[i]? = some k := by rw [List.getElem?_map, hk]; rfl
    exact dc_turn R mono nd nD (by rw [List.length_map]; exact hz) hw hj (fun i k H2 Qy hk s kk => by
      rw [List.getElem?_map] at hk
      obtain ⟨q, h1, h2⟩ := Option.map_eq_some_iff.mp hk
      obtain ⟨k', v'⟩ := q
      cases h2
      exact each i _ v' H2 Qy h1 s kk) hk2 p
  · have e : i = kvs.length := by omega
    subst e
    obtain ⟨s2, ds, eD, hl, pr⟩ := p
    refine .inl ⟨⟨q, Nat.le_refl _⟩, fin H ds s2 eD ?_ pr⟩
    rw [hl, ← List.length_map (f := fun q : Key × V => q.1), List.take_length]
/-- over a list of texts -/
theorem dc_strs {K : PySem.W.Frag} {xs : List Str} (R : Nat → Hp → V → Prop) (mono : ∀ {H H' : Hp} {i : Nat} {y : V}, Same H H' → R i H y → R i H' y) (nd : xs.Nodup) (hq : SqL K H1 a (xs.map V.str)) (nD : H1 D = none) (hz : xs.length < sizeLine) (hw : ∀ x, wipe ((wipe σ vs).set j (some x)) vs = wipe σ vs) (hj : ∀ x : V, ((wipe σ vs).set j (some x))[j]? = some (some x))
    (each : ∀ (i : Nat) (x : Str) (H2 : Hp) (Qy : VK), xs[i]? = some x → Same H1 H2 → (∀ y H4, Same H2 H4 → R i (difH H2 H4) y → Qy y H4) → tv ((wipe σ vs).set j (some (.str x))) H2 Qy)
    (fin : ∀ (H' : Hp) (ds : List (Key × V)), Same H1 H' → H' D = some (.dK ds) → ds.map (·.1) = xs.map Sum.inr → (∀ i q, ds[i]? = some q → R i (cutH D (difH H1 H')) q.2) → Qd H') :
    ∃ W : Nat → Nat → Hp → Prop, (∃ m, W 0 m (upd H1 D (.dK []))) ∧ ∀ i m H, W i m H →
      ((Itl K a).stop i H ∧ Qd H) ∨ ((Itl K a).go i H ∧ ∃ Nx : Hp → Prop, (∀ H', Nx H' → ∃ m', m' < m ∧ W (i + 1) m' H') ∧ ∀ x H', (Itl K a).yld i H x H' → gName j x (wipe σ vs) H' fun σ2 H2 => wipe σ2 vs = wipe σ vs ∧ tYes σ2 H2 fun b H3 =>
        if b = true then tVar j σ2 H3 fun y H4 => tv σ2 H4 fun z H5 => ∃ kvs k, y = kV k ∧ H5 D = some (.dK kvs) ∧ kvs.length < sizeLine ∧ Nx (upd H5 D (.dK (putK kvs k z))) else Nx H3) := by
  have ndK : (xs.map (Sum.inr : Str → Key)).Nodup := by
    refine List.Pairwise.map _ (fun a b h z => h (Sum.inr.inj z)) nd
  refine ⟨fun i m H => m = xs.length - i ∧ i ≤ xs.length ∧ MadeD R (xs.map Sum.inr) D H1 i H, ⟨xs.length, rfl, Nat.zero_le _, same_new nD, [], upd_same, rfl, fun j q h => by cases h⟩, ?_⟩
  rintro i m H ⟨rfl, hi, p⟩
  have q := p.1.seq hq
  by_cases hlt : i < xs.length
  · have g : (xs.map V.str)[i]? = some (V.str xs[i]) := by rw [List.getElem?_map, List.getElem?_eq_getElem hlt]; rfl
    refine .inr ⟨⟨_, _, q, g⟩, MadeD R (xs.map Sum.inr) D H1 (i + 1), fun H' p' => ⟨xs.length - (i + 1), by omega, rfl, hlt, p'⟩, ?_⟩
    intro v H' y
    obtain ⟨e1, y⟩ := y
    subst e1
    have ev : v = .str xs[i] := Option.some.inj ((y _ q).symm.trans g)
    subst ev
    have hk2 : (xs.map (Sum.inr : Str → Key))[i]? = some (Sum.inr xs[i]) := by rw [List.getElem?_map, List.getElem?_eq_getElem hlt]; rfl
    exact dc_turn R mono ndK nD (by rw [List.length_map]; exact hz) hw hj (fun i k H2 Qy hk s kk => by
      rw [List.getElem?_map] at hk
      obtain ⟨x, h1, h2⟩ := Option.map_eq_some_iff.mp hk
      cases h2
      exact each i x H2 Qy h1 s kk) hk2 p
  · have e : i = xs.length := by omega
    subst e
    obtain ⟨s2, ds, eD, hl, pr⟩ := p
    refine .inl ⟨?_, fin H ds s2 eD ?_ pr⟩
    · exact ⟨_, q, by simp⟩
    · rw [hl, ← List.length_map (f := (Sum.inr : Str → Key)), List.take_length]
end

/-! ### data that nests: None, truths, numbers, texts, lists, tuples -/
def HAt : Nat → Hp → V → PyData → Prop
  | 0, _, _, _ => False
  | _ + 1, _, v, .none => v = .non
  | _ + 1, _, v, .bool b => v = .bl b
  | _ + 1, _, v, .int i => v = .int i
  | _ + 1, _, v, .str x => v = .str x
  | n + 1, H, v, .list ds => ∃ a vs, v = .ref a ∧ H a = some (.lst vs) ∧ Paired (HAt n H) vs ds ∧ vs.length ≤ 1000
  | n + 1, H, v, .tuple ds => ∃ a vs, v = .ref a ∧ H a = some (.tup vs) ∧ Paired (HAt n H) vs ds ∧ vs.length ≤ 1000
  | _ + 1, _, _, .dict _ => False
theorem HAt.same {H H' : Hp} (s : Same H H') : ∀ {n : Nat} {v : V} {d : PyData}, HAt n H v d → HAt n H' v d
  | 0, _, _, h => h.elim
  | _ + 1, _, .none, h => h
  | _ + 1, _, .bool _, h => h
  | _ + 1, _, .int _, h => h
  | _ + 1, _, .str _, h => h
  | n + 1, _, .list ds, ⟨a, vs, e, h, p, l⟩ => ⟨a, vs, e, s _ _ h, paired_imp (fun _ _ k => HAt.same s k) p, l⟩
  | n + 1, _, .tuple ds, ⟨a, vs, e, h, p, l⟩ => ⟨a, vs, e, s _ _ h, paired_imp (fun _ _ k => HAt.same s k) p, l⟩
  | _ + 1, _, .dict _, h => h
/-- lists and tuples stand as before -/
def SeqSame (H H' : Hp) : Prop := ∀ b o, H b = some o → (∃ xs, o = .lst xs) ∨ (∃ xs, o = .tup xs) → H' b = some o
theorem SeqSame.of {H H' : Hp} (s : Same H H') : SeqSame H H' := fun b o e _ => s b o e
theorem SeqSame.trans {H H1 H2 : Hp} (a : SeqSame H H1) (b : SeqSame H1 H2) : SeqSame H H2 := fun c o e h => b c o (a c o e h) h
theorem SeqSame.put {H : Hp} {p : Addr} {u u' : HO} (e : H p = some u) (h : ∀ xs, u ≠ .lst xs ∧ u ≠ .tup xs) : SeqSame H (upd H p u') := fun b o eb ho => by
  have nb : b ≠ p := fun z => by
    rw [z, e] at eb
    cases eb
    rcases ho with ⟨xs, z⟩ | ⟨xs, z⟩
    · exact (h xs).1 z
    · exact (h xs).2 z
  rw [upd_ne nb]
  exact eb
theorem HAt.seqs {H H' : Hp} (s : SeqSame H H') : ∀ {n : Nat} {v : V} {d : PyData}, HAt n H v d → HAt n H' v d
  | 0, _, _, h => h.elim
  | _ + 1, _, .none, h => h
  | _ + 1, _, .bool _, h => h
  | _ + 1, _, .int _, h => h
  | _ + 1, _, .str _, h => h
  | n + 1, _, .list ds, ⟨a, vs, e, h, p, l⟩ => ⟨a, vs, e, s _ _ h (.inl ⟨_, rfl⟩), paired_imp (fun _ _ k => HAt.seqs s k) p, l⟩
  | n + 1, _, .tuple ds, ⟨a, vs, e, h, p, l⟩ => ⟨a, vs, e, s _ _ h (.inr ⟨_, rfl⟩), paired_imp (fun _ _ k => HAt.seqs s k) p, l⟩
  | _ + 1, _, .dict _, h => h
/-- tuples in the place of lists -/
def tupd : Nat → PyData → PyData
  | 0, d => d
  | n + 1, .list ds => .tuple (ds.map (tupd n))
  | n + 1, .tuple ds => .tuple (ds.map (tupd n))
  | _ + 1, d => d
theorem fnok_no {P : Program} {w : World} {K : PySem.W.Frag} {mg : Str → Option Value} {base : Heap} {CX : CXT} {k : Nat} {f : Addr} {fd : FuncData} {ps : List Str} {sp : Sp} (h : ∀ vs H Q E, ¬ sp vs H Q E) : FnOk P w K mg base CX k f fd ps sp :=
  ⟨fun vs H Q E q => (h _ _ _ _ q).elim, fun A outer s H args us vs Q E hr he hb hv hs => (h _ _ _ _ hs).elim⟩
section
variable {P : Program} {w : World} {K : PySem.W.Frag} {mg : Str → Option Value} {base : Heap}
def sp_held0 (n : Nat) : Sp := fun vs H Q _ => ∃ (v : V) (d : PyData), vs = [v] ∧ HAt n H v d ∧ ∀ (H' : Hp) (v' : V), Same H H' → HAt n (difH H H') v' (tupd n d) → Q v' H'
theorem sp_held0_no {vs : List V} {H : Hp} {Q : VK} {E : XK} (h : sp_held0 0 vs H Q E) : False := by
  obtain ⟨_, _, _, h, _⟩ := h
  exact h
/-- what is no list, tuple or dict -/
theorem scal_ty {n : Nat} {H : Hp} {v : V} {d : PyData} (h : HAt (n + 1) H v d) (hd : ∀ ds, d ≠ .list ds ∧ d ≠ .tuple ds) : (∃ m : String, (∀ H', TyX K H' v (.type m)) ∧ PySem.W.kitOne K (.type m) (.type "list") = some false ∧ PySem.W.kitOne K (.type m) (.type "tuple") = some false ∧ PySem.W.kitOne K (.type m) (.type "dict") = some false) ∧ tupd (n + 1) d = d ∧ ∀ H', HAt (n + 1) H' v d := by
  cases d with
  | none => cases (show v = .non from h); exact ⟨⟨"NoneType", fun H => .base .non, kit_ty (by decide +kernel), kit_ty (by decide +kernel), kit_ty (by decide +kernel)⟩, rfl, fun _ => rfl⟩
  | bool b => cases (show v = .bl b from h); exact ⟨⟨"bool", fun H => .base (.bl b), kit_ty (by decide +kernel), kit_ty (by decide +kernel), kit_ty (by decide +kernel)⟩, rfl, fun _ => rfl⟩
  | int i => cases (show v = .int i from h); exact ⟨⟨"int", fun H => .base (.int i), kit_ty (by decide +kernel), kit_ty (by decide +kernel), kit_ty (by decide +kernel)⟩, rfl, fun _ => rfl⟩
  | str x => cases (show v = .str x from h); exact ⟨⟨"str", fun H => .base (.str x), kit_ty (by decide +kernel), kit_ty (by decide +kernel), kit_ty (by decide +kernel)⟩, rfl, fun _ => rfl⟩
  | list ds => exact absurd rfl (hd ds).1
  | tuple ds => exact absurd rfl (hd ds).2
  | dict kvs => exact (show False from h).elim
theorem small_line {n : Nat} (h : n ≤ 1000) : n < sizeLine := Nat.lt_of_le_of_lt h (by decide)
theorem ok_held0 {f : Addr} {fd : FuncData} {dvs : List V} (F : Fn K "held" s_held0 dvs f fd) {n r : Nat} (O_held0 : Own P w K mg base "held" r ["thing"] [] (sp_held0 n)) (m_dict : mg "dict" = none) (m_isinstance : mg "isinstance" = none) (m_list : mg "list" = none) (m_tuple : mg "tuple" = none) : FnOk P w K mg base CX0 (r + 1) f fd ["thing"] (sp_held0 (n + 1)) := by
  refine Fn.okN F sc_held0 (fun vs H Q E h => ?_) (fun cdv A outer s H vs Q E hr h => ?_)
  · obtain ⟨_, _, rfl, _⟩ := h
    rfl
  · obtain ⟨v, d, rfl, hv, k⟩ := h
    refine ⟨_, (pss_cons (ps_if (pt_val (pe_callB call_isiT (by rfl) m_isinstance (by decide +kernel) (pa_cons (pv 0) (pa_cons (pe_tup (pa_cons (pe_bltn (v := .ty "list") (by rfl) m_list (by decide +kernel) rfl) (pa_cons (pe_bltn (v := .ty "tuple") (by rfl) m_tuple (by decide +kernel) rfl) pa_nil))) pa_nil))))
          (pss_one (ps_ret (pe_callTy call_tuple_of (by rfl) m_tuple (by decide +kernel) (pa_cons (pe_lc (own := [("part", 2)]) (g := gName 2) (tt := tYes) (by rfl) sc_held0.nd (pi_seq (pv 0)) (blkOk_by (own := [("part", 2)]) (N := ["thing", "key", "part"]) (sc := defScope s_held0) (by decide +kernel)) (fun _ _ _ _ _ => (pg_name (i := 2) sc_held0.nd rfl (.inl rfl))) (fun _ _ _ _ _ => pts_nil) (fun _ _ _ _ _ => (pe_own O_held0 (hr.mono (by omega)) (by rfl) (pa_cons (pv 2) pa_nil)))) pa_nil))))
          pss_nil)
      (pss_cons (ps_if (pt_val (pe_callB call_isi (by rfl) m_isinstance (by decide +kernel) (pa_cons (pv 0) (pa_cons (pe_bltn (v := .ty "dict") (by rfl) m_dict (by decide +kernel) rfl) pa_nil))))
          (pss_one ps_never)
          pss_nil)
      (pss_one (ps_ret (pv 0))))), ?_⟩
    have key : (∃ ds, d = .list ds ∨ d = .tuple ds) ∨ ∀ ds, d ≠ .list ds ∧ d ≠ .tuple ds := by
      cases d with
      | list ds => exact .inl ⟨ds, .inl rfl⟩
      | tuple ds => exact .inl ⟨ds, .inr rfl⟩
      | none => exact .inr fun ds => ⟨nofun, nofun⟩
      | bool b => exact .inr fun ds => ⟨nofun, nofun⟩
      | int i => exact .inr fun ds => ⟨nofun, nofun⟩
      | str x => exact .inr fun ds => ⟨nofun, nofun⟩
      | dict x => exact .inr fun ds => ⟨nofun, nofun⟩
    refine ⟨v, rfl, by show 2 ≤ sizeLine; decide, fun T nT => ?_⟩
    have sT := same_new (o := .tup [.ty "list", .ty "tuple"]) nT
    have tT : (upd H T (.tup [.ty "list", .ty "tuple"])) T = some (.tup [.ty "list", .ty "tuple"]) := upd_same
    generalize upd H T (.tup [.ty "list", .ty "tuple"]) = H1 at sT tT ⊢
    rcases key with ⟨ds, hd⟩ | hd
    · obtain ⟨a, vs, rfl, ha, pr, hl, ed⟩ : ∃ a vs, v = .ref a ∧ (H a = some (.lst vs) ∨ H a = some (.tup vs)) ∧ Paired (HAt n H) vs ds ∧ vs.length ≤ 1000 ∧ tupd (n + 1) d = .tuple (ds.map (tupd n)) := by
        rcases hd with rfl | rfl
        · obtain ⟨a, vs, e, h, p, l⟩ := hv
          exact ⟨a, vs, e, .inl h, p, l, rfl⟩
        · obtain ⟨a, vs, e, h, p, l⟩ := hv
          exact ⟨a, vs, e, .inr h, p, l, rfl⟩
      rw [ed] at k
      have fin : ∀ (D : Addr) (H2 : Hp) (ys : List V), H1 D = none → Same H1 H2 → H2 D = some (.lst ys) → ys.length = vs.length → (∀ (j : Nat) (y : V), ys[j]? = some y → ∀ dj, ds[j]? = some dj → HAt n (cutH D (difH H1 H2)) y (tupd n dj)) →
          ∃ p ys', [V.ref D] = [V.ref p] ∧ ((SqL K H2 p ys' ∧ ∀ l, H2 l = none → Q (.ref l) (upd H2 l (.tup ys'))) ∨ (SqT K H2 p ys' ∧ Q (.ref p) H2)) := by
        intro D H2 ys nD s2 eD hly hR
        refine ⟨D, ys, rfl, .inl ⟨SqL.of eD, fun l nl => k _ _ ((sT.trans s2).trans (same_new nl)) ⟨l, ys, rfl, ?_, ?_, by omega⟩⟩⟩
        · rw [difH_at ((sT.trans s2).free nl)]
          exact upd_same
        · refine paired_of (by rw [List.length_map, hly]; exact paired_len pr) fun i y z hy hz => ?_
          rw [List.getElem?_map] at hz
          obtain ⟨dj, h1, rfl⟩ := Option.map_eq_some_iff.mp hz
          refine (hR i y hy dj h1).same fun b o e => ?_
          obtain ⟨e1, e2⟩ := difH_some (cutH_sub _ _ _ _ e)
          rw [difH_at (sT.free e1), upd_ne (ne_of_none e2 nl)]
          exact e2
      have hlt := small_line hl
      have ea : ∀ (i : Nat) (x : V) (H2 : Hp) (Qy : VK), vs[i]? = some x → Same H1 H2 → (∀ y H4, Same H2 H4 → (∀ dj, ds[i]? = some dj → HAt n (difH H2 H4) y (tupd n dj)) → Qy y H4) → sp_held0 n [x] H2 Qy E0 := by
        intro i x H2 Qy hx s2 kk
        have hi : i < ds.length := by rw [← paired_len pr]; exact (List.getElem?_eq_some_iff.mp hx).1
        refine ⟨x, ds[i], rfl, (paired_at pr hx (List.getElem?_eq_getElem hi)).same (sT.trans s2), fun H4 y s4 r => kk y H4 s4 fun dj hj => ?_⟩
        rw [List.getElem?_eq_getElem hi] at hj
        cases hj
        exact r
      rcases ha with ha | ha
      · have ha1 := sT _ _ ha
        refine ⟨.ref a, T, [.ty "list", .ty "tuple"], _, _, true, rfl, tT, .cons (.ty "list") (.cons (.ty "tuple") .nil), .base (.lst ha1), kitAny_cons (b := true) (kit_ty (by decide +kernel)) (fun h => Bool.noConfusion h) (fun _ => rfl), true, rfl, iteT ?_⟩
        refine ⟨.ref a, rfl, a, rfl, .inl ⟨⟨vs, SqL.of ha1⟩, fun D nD => ?_⟩⟩
        refine lc_rel (K := K) (a := a) (xs := vs) (fun i H y => ∀ dj, ds[i]? = some dj → HAt n H y (tupd n dj)) (fun s h dj e => (h dj e).same s) (SqL.of ha1) nD hlt (fun _ => rfl) (fun i x H2 Qy hx s2 kk => ⟨x, rfl, ea i x H2 Qy hx s2 kk⟩) fun H2 ys s2 eD hly hR => fin D H2 ys nD s2 eD hly hR
      · have ha1 := sT _ _ ha
        refine ⟨.ref a, T, [.ty "list", .ty "tuple"], _, _, true, rfl, tT, .cons (.ty "list") (.cons (.ty "tuple") .nil), .base (.tup ha1), kitAny_cons (b := false) (kit_ty (by decide +kernel)) (fun _ => kitAny_cons (b := true) (kit_ty (by decide +kernel)) (fun h => Bool.noConfusion h) (fun _ => rfl)) (fun h => Bool.noConfusion h), true, rfl, iteT ?_⟩
        refine ⟨.ref a, rfl, a, rfl, .inr ⟨⟨vs, SqT.of ha1⟩, fun D nD => ?_⟩⟩
        refine lc_relT (K := K) (a := a) (xs := vs) (fun i H y => ∀ dj, ds[i]? = some dj → HAt n H y (tupd n dj)) (fun s h dj e => (h dj e).same s) (fun H2 s => SqT.of (s _ _ ha1)) nD hlt (fun _ => rfl) (fun i x H2 Qy hx s2 kk => ⟨x, rfl, ea i x H2 Qy hx s2 kk⟩) fun H2 ys s2 eD hly hR => fin D H2 ys nD s2 eD hly hR
    · obtain ⟨⟨m, ty, k1, k2, k3⟩, e1, e2⟩ := scal_ty (K := K) hv hd
      rw [e1] at k
      refine ⟨v, T, [.ty "list", .ty "tuple"], _, _, false, rfl, tT, .cons (.ty "list") (.cons (.ty "tuple") .nil), ty H1, kitAny_cons (b := false) k1 (fun _ => kitAny_cons (b := false) k2 (fun _ => kitAny_nil) (fun h => Bool.noConfusion h)) (fun h => Bool.noConfusion h), false, rfl, iteF ?_⟩
      exact ⟨v, rfl, _, _, _, _, false, rfl, .ty "dict", ty H1, k3, false, rfl, iteF ⟨v, rfl, k H1 v sT (e2 _)⟩⟩
/-- a dict from texts to data -/
def DctAt (n : Nat) (H : Hp) (kvs : List (Key × V)) (P : List (Str × PyData)) : Prop := kvs.map (·.1) = P.map (fun p => Sum.inr p.1) ∧ ∀ (i : Nat) (q : Key × V) (p : Str × PyData), kvs[i]? = some q → P[i]? = some p → HAt n H q.2 p.2
theorem DctAt.len {n : Nat} {H : Hp} {kvs : List (Key × V)} {P : List (Str × PyData)} (h : DctAt n H kvs P) : kvs.length = P.length := by
  have := congrArg List.length h.1
  rw [List.length_map, List.length_map] at this
  exact this
theorem DctAt.same {n : Nat} {H H' : Hp} (s : Same H H') {kvs : List (Key × V)} {P : List (Str × PyData)} (h : DctAt n H kvs P) : DctAt n H' kvs P := ⟨h.1, fun i q p a b => (h.2 i q p a b).same s⟩
theorem nodup_inr {P : List (Str × PyData)} (nd : (P.map (·.1)).Nodup) : (P.map fun p => (Sum.inr p.1 : Key)).Nodup := by
  have e : (P.map fun p => (Sum.inr p.1 : Key)) = (P.map (·.1)).map Sum.inr := by
    rw [List.map_map]
    rfl
  rw [e]
  exact List.Pairwise.map _ (fun a b h z => h (Sum.inr.inj z)) nd
def sp_held : Sp := fun vs H Q _ => ∃ (p : Addr) (kvs : List (Key × V)) (P : List (Str × PyData)), vs = [.ref p] ∧ H p = some (.dK kvs) ∧ DctAt 3 H kvs P ∧ (P.map (·.1)).Nodup ∧ P.length ≤ 1000 ∧
  ∀ (H' : Hp) (q : Addr) (ds : List (Key × V)), Same H H' → H q = none → H' q = some (.dK ds) → DctAt 3 (cutH q (difH H H')) ds (P.map fun p => (p.1, tupd 3 p.2)) → Q (.ref q) H'
theorem ok_held {f : Addr} {fd : FuncData} {dvs : List V} (F : Fn K "held" s_held dvs f fd) (O_held0 : Own P w K mg base "held" 3 ["thing"] [] (sp_held0 3)) (m_dict : mg "dict" = none) (m_isinstance : mg "isinstance" = none) (m_list : mg "list" = none) (m_tuple : mg "tuple" = none) : FnOk P w K mg base CX0 4 f fd ["thing"] (sp_held) := by
  refine Fn.okN F sc_held (fun vs H Q E h => ?_) (fun cdv A outer s H vs Q E hr h => ?_)
  · obtain ⟨_, _, _, rfl, _⟩ := h
    rfl
  · obtain ⟨p, kvs, P, rfl, hp, hP, nd, hl, k⟩ := h
    refine ⟨_, (pss_cons (ps_if (pt_val (pe_callB call_isiT (by rfl) m_isinstance (by decide +kernel) (pa_cons (pv 0) (pa_cons (pe_tup (pa_cons (pe_bltn (v := .ty "list") (by rfl) m_list (by decide +kernel) rfl) (pa_cons (pe_bltn (v := .ty "tuple") (by rfl) m_tuple (by decide +kernel) rfl) pa_nil))) pa_nil))))
          (pss_one ps_never)
          pss_nil)
      (pss_cons (ps_if (pt_val (pe_callB call_isi (by rfl) m_isinstance (by decide +kernel) (pa_cons (pv 0) (pa_cons (pe_bltn (v := .ty "dict") (by rfl) m_dict (by decide +kernel) rfl) pa_nil))))
          (pss_one (ps_ret (pe_lock (pe_dc (own := [("key", 1)]) (g := gName 1) (tt := tYes) (by rfl) sc_held.nd (pi_keys (pv 0)) (blkOk_by (own := [("key", 1)]) (N := ["thing", "key", "part"]) (sc := defScope s_held) (by decide +kernel)) (fun _ _ _ _ _ => (pg_name (i := 1) sc_held.nd rfl (.inl rfl))) (fun _ _ _ _ _ => pts_nil) (fun _ _ _ _ _ => (pv 1)) (fun _ _ _ _ _ => (pe_own O_held0 (hr.mono (by decide)) (by rfl) (pa_cons (pe_dget (hu_of hr) (pv 0) (pv 1) (fun _ _ => rfl)) pa_nil)))))))
          pss_nil)
      (pss_one (ps_ret (pv 0))))), ?_⟩
    have hlen := hP.len
    refine ⟨.ref p, rfl, by show 2 ≤ sizeLine; decide, fun T nT => ?_⟩
    have sT := same_new (o := .tup [.ty "list", .ty "tuple"]) nT
    have tT : (upd H T (.tup [.ty "list", .ty "tuple"])) T = some (.tup [.ty "list", .ty "tuple"]) := upd_same
    generalize upd H T (.tup [.ty "list", .ty "tuple"]) = H1 at sT tT ⊢
    have hp1 := sT _ _ hp
    refine ⟨.ref p, T, [.ty "list", .ty "tuple"], _, _, false, rfl, tT, .cons (.ty "list") (.cons (.ty "tuple") .nil), .base (.dK hp1), kitAny_cons (b := false) (kit_ty (by decide +kernel)) (fun _ => kitAny_cons (b := false) (kit_ty (by decide +kernel)) (fun _ => kitAny_nil) (fun h => Bool.noConfusion h)) (fun h => Bool.noConfusion h), false, rfl, iteF ?_⟩
    refine ⟨.ref p, rfl, _, _, _, _, true, rfl, .ty "dict", .base (.dK hp1), kit_ty (by decide +kernel), true, rfl, iteT ?_⟩
    refine ⟨p, .dK kvs, hp1, trivial, fun od => ⟨.ref p, rfl, p, od, rfl, .inl ⟨kvs, upd_same, fun D nD => ?_⟩⟩⟩
    have nD1 : H1 D = none := by
      by_cases e : D = p
      · rw [e] at nD
        rw [upd_same] at nD
        cases nD
      · rwa [upd_ne e] at nD
    have pD : p ≠ D := ne_of_none hp1 nD1
    refine dc_keys (fun i H y => ∀ pi, P[i]? = some pi → HAt 3 H y (tupd 3 pi.2)) (fun s h pi e => (h pi e).same s) (by rw [hP.1]; exact nodup_inr nd) upd_same nD (small_line (by omega)) (fun _ => rfl) (fun _ => rfl) (fun i kk v H2 Qy hk s2 kn => ?_) fun H2 ds s2 eD hks hR => ?_
    · have hi : i < P.length := by rw [← hlen]; exact (List.getElem?_eq_some_iff.mp hk).1
      have e2 : H2 p = some (.frz od (.dK kvs)) := s2 _ _ upd_same
      have ndK : (kvs.map (·.1)).Nodup := by rw [hP.1]; exact nodup_inr nd
      refine ⟨.ref p, rfl, kV kk, rfl, p, v, rfl, .inl ⟨kvs, kk, .inr ⟨od, e2⟩, rfl, (valV_ix ndK hk).symm⟩, v, (P[i]).2, rfl, ?_, fun H4 y s4 r => kn y H4 s4 fun pi hpi => ?_⟩
      · exact (hP.2 i _ _ hk (List.getElem?_eq_getElem hi)).seqs (((SeqSame.of sT).trans (SeqSame.put hp1 fun xs => ⟨nofun, nofun⟩)).trans (SeqSame.of s2))
      · rw [List.getElem?_eq_getElem hi] at hpi
        cases hpi
        exact r
    · refine ⟨s2 _ _ upd_same, k _ D ds (fun b o e => ?_) (sT.free nD1) ?_ ⟨?_, ?_⟩⟩
      · by_cases hb : b = p
        · rw [hb] at e ⊢
          rw [hp] at e
          cases e
          exact upd_same
        · rw [upd_ne hb]
          refine s2 _ _ ?_
          rw [upd_ne hb]
          exact sT _ _ e
      · rw [upd_ne pD.symm]
        exact eD
      · rw [hks, hP.1, List.map_map]
        rfl
      · intro i q pi hq hpi
        rw [List.getElem?_map] at hpi
        obtain ⟨p0, h1, rfl⟩ := Option.map_eq_some_iff.mp hpi
        refine (hR i q hq p0 h1).same fun b o e => ?_
        have nb : b ≠ D := fun z => by
          rw [z] at e
          unfold cutH at e
          rw [if_pos rfl] at e
          cases e
        rw [cutH_ne nb] at e ⊢
        obtain ⟨e1, e2⟩ := difH_some e
        have np : b ≠ p := fun z => by
          rw [z, upd_same] at e1
          cases e1
        rw [upd_ne np] at e1
        rw [difH_at (sT.free e1), upd_ne np]
        exact e2
end

/-! ### plays that print -/
/-- a deed that prints -/
def prD (x : Str) : PyData := .tuple [.str "print", .str x]
def actL (xs : List Str) : PyData := .list (xs.map prD)
def actT (xs : List Str) : PyData := .tuple (xs.map prD)
theorem tupd_act (xs : List Str) : tupd 3 (actL xs) = actT xs := by
  show PyData.tuple ((xs.map prD).map (tupd 2)) = .tuple (xs.map prD)
  rw [List.map_map]
  rfl
theorem pr_at {H : Hp} {v : V} {x : Str} (h : HAt 2 H v (prD x)) : ∃ a, v = .ref a ∧ H a = some (.tup [.str "print", .str x]) := by
  obtain ⟨a, vs, e, ha, pr, _⟩ := h
  cases pr with
  | cons r1 t1 =>
    cases t1 with
    | cons r2 t2 =>
      cases t2
      exact ⟨a, e, by rw [ha, show _ = V.str "print" from r1, show _ = V.str x from r2]⟩
theorem kit_lst {K : PySem.W.Frag} : PySem.W.kitAny K (.type "list") [.type "list", .type "tuple"] = some true := kitAny_cons (b := true) (kit_ty (by decide +kernel)) (fun h => Bool.noConfusion h) (fun _ => rfl)
theorem kit_tup {K : PySem.W.Frag} : PySem.W.kitAny K (.type "tuple") [.type "list", .type "tuple"] = some true := kitAny_cons (b := false) (kit_ty (by decide +kernel)) (fun _ => kitAny_cons (b := true) (kit_ty (by decide +kernel)) (fun h => Bool.noConfusion h) (fun _ => rfl)) (fun h => Bool.noConfusion h)
section
variable {P : Program} {w : World} {K : PySem.W.Frag} {mg : Str → Option Value} {base : Heap}
def sp_is_text : Sp := fun vs H Q _ => ∃ x : Str, vs = [.str x] ∧ Q (.bl true) H
theorem ok_is_text {f : Addr} {fd : FuncData} {dvs : List V} (F : Fn K "is_text" s_is_text dvs f fd) (m_isinstance : mg "isinstance" = none) (m_str : mg "str" = none) : FnOk P w K mg base CX0 1 f fd ["thing"] (sp_is_text) := by
  refine Fn.okN F sc_is_text (fun vs H Q E h => ?_) (fun cdv A outer s H vs Q E hr h => ?_)
  · obtain ⟨_, rfl, _⟩ := h
    rfl
  · obtain ⟨x, rfl, k⟩ := h
    refine ⟨_, (pss_one (ps_ret (pe_callB call_isi (by rfl) m_isinstance (by decide +kernel) (pa_cons (pv 0) (pa_cons (pe_bltn (v := .ty "str") (by rfl) m_str (by decide +kernel) rfl) pa_nil))))), ?_⟩
    exact ⟨_, rfl, _, _, _, _, true, rfl, .ty "str", .base (.str x), kit_ty (by decide +kernel), k⟩
def sp_fits : Sp := fun vs H Q _ => ∃ x : Str, vs = [.str x, .str "text"] ∧ Q (.bl true) H
theorem ok_fits {f : Addr} {fd : FuncData} {dvs : List V} (F : Fn K "fits" s_fits dvs f fd) (O_is_text : Own P w K mg base "is_text" 1 ["thing"] [] (sp_is_text)) : FnOk P w K mg base CX0 2 f fd ["thing", "kind"] (sp_fits) := by
  refine Fn.okN F sc_fits (fun vs H Q E h => ?_) (fun cdv A outer s H vs Q E hr h => ?_)
  · obtain ⟨_, rfl, _⟩ := h
    rfl
  · obtain ⟨x, rfl, k⟩ := h
    refine ⟨_, (pss_cons (ps_if (pt_cmpR op_eq (pv 1) pe_str (nomark _)) pss_never pss_nil)
      (pss_cons (ps_if (pt_cmpR op_eq (pv 1) pe_str (nomark _)) pss_never pss_nil)
      (pss_one (ps_ret (pe_ifExp (pt_cmpR op_eq (pv 1) pe_str (nomark _)) (pe_own O_is_text (hr.mono (by decide)) (by rfl) (pa_cons (pv 0) pa_nil)) pe_never))))), ?_⟩
    refine ⟨_, rfl, rfl, false, congrArg V.bl (decide_eq_false (by decide +kernel)), iteF ⟨_, rfl, rfl, false, congrArg V.bl (decide_eq_false (by decide +kernel)), iteF ⟨_, rfl, rfl, true, congrArg V.bl (decide_eq_true rfl), iteT ⟨_, rfl, x, rfl, k⟩⟩⟩⟩
def sp_is_deed : Sp := fun vs H Q _ => ∃ (v : V) (x : Str), vs = [v] ∧ HAt 2 H v (prD x) ∧ ∀ H', Same H H' → Q (.bl true) H'
theorem ok_is_deed {f : Addr} {fd : FuncData} {dvs : List V} (F : Fn K "is_deed" s_is_deed dvs f fd) (O_is_text : Own P w K mg base "is_text" 1 ["thing"] [] (sp_is_text)) (O_fits : Own P w K mg base "fits" 2 ["thing", "kind"] [] (sp_fits)) (m_all : mg "all" = none) (m_isinstance : mg "isinstance" = none) (m_len : mg "len" = none) (m_list : mg "list" = none) (m_tuple : mg "tuple" = none) (m_zip : mg "zip" = none) {a_SHAPES : Addr} {es_SHAPES : Array DictEntry} {n_SHAPES : Nat} {b_SHAPES : Nat → Addr} (c_SHAPES : mg "SHAPES" = some (.ref a_SHAPES)) (kd_SHAPES : KDict K w a_SHAPES es_SHAPES n_SHAPES) (g_SHAPES : ∀ z : Str, ∃ r, PySem.W.nsIn K a_SHAPES z = some r ∧ RelV (v_SHAPES b_SHAPES z) (r.getD .none)) (p_SHAPES : ∀ (i : Nat) (t : List Str), tv_SHAPES[i]? = some t → ∀ H, SqT K H (b_SHAPES i) (t.map V.str)) : FnOk P w K mg base CX0 3 f fd ["thing"] (sp_is_deed) := by
  refine Fn.okN F sc_is_deed (fun vs H Q E h => ?_) (fun cdv A outer s H vs Q E hr h => ?_)
  · obtain ⟨_, _, rfl, _⟩ := h
    rfl
  · obtain ⟨v, x, rfl, hv, k⟩ := h
    refine ⟨_, (pss_cons (ps_if (PW.pt (pw_or (pt_not (pt_val (pe_callB call_isiT (by rfl) m_isinstance (by decide +kernel) (pa_cons (pv 0) (pa_cons (pe_tup (pa_cons (pe_bltn (v := .ty "list") (by rfl) m_list (by decide +kernel) rfl) (pa_cons (pe_bltn (v := .ty "tuple") (by rfl) m_tuple (by decide +kernel) rfl) pa_nil))) pa_nil))))) (pw_or (pt_not (pt_tr (K' := K) (pv 0))) (pw_or1 (pt_not (pt_val (pe_own O_is_text (hr.mono (by decide)) (by rfl) (pa_cons (pe_ix ix_tup (pv 0) pe_int (fun _ _ => rfl)) pa_nil))))))))
          (pss_one (ps_ret pe_bl))
          pss_nil)
      (pss_cons (ps_set (i := 1) sc_is_deed.nd rfl (.inl rfl) (pe_kget kd_SHAPES (pe_glob (v := .ref a_SHAPES) rfl c_SHAPES rfl) (pe_ix ix_tup (pv 0) pe_int (fun _ _ => rfl)) ⟨rfl, rfl, rfl, rfl⟩))
      (pss_cons (ps_if (PW.pt (pw_or (pt_cmpR op_isN (pv 1) pe_non (nomark _)) (pw_or1 (pt_cmpR op_ne (pe_callB call_len_seq (by rfl) m_len PySem.boot_len (pa_cons (pv 1) pa_nil)) (pe_op op_sub (pe_callB call_len_seq (by rfl) m_len PySem.boot_len (pa_cons (pv 0) pa_nil)) pe_int) (nomark _)))))
          (pss_one (ps_ret pe_bl))
          pss_nil)
      (pss_one (ps_ret (pe_callB (cr_all rfl) (by rfl) m_all (by decide +kernel) (pa_cons (pe_lc (own := [("part", 2), ("kind", 3)]) (g := gTup K 2 (gCons (gName 2) (gCons (gName 3) gNil))) (tt := tYes) (by rfl) sc_is_deed.nd (RZ.pi_zipA (by rfl) m_zip (pa_cons (pe_slice sl_tup (pv 0) (po_some pe_int) po_none) (pa_cons (pv 1) pa_nil))) (blkOk_by (own := [("part", 2), ("kind", 3)]) (N := ["thing", "shape", "part", "kind"]) (sc := defScope s_is_deed) (by decide +kernel)) (fun _ _ _ _ _ => (pg_tup rfl (pgs_cons (pg_name (i := 2) sc_is_deed.nd rfl (.inl rfl)) (pgs_cons (pg_name (i := 3) sc_is_deed.nd rfl (.inl rfl)) pgs_nil)))) (fun _ _ _ _ _ => pts_nil) (fun _ _ _ _ _ => (pe_own O_fits (hr.mono (by decide)) (by rfl) (pa_cons (pv 2) (pa_cons (pv 3) pa_nil))))) pa_nil))))))), ?_⟩
    obtain ⟨a, rfl, ha⟩ := pr_at hv
    refine ⟨.ref a, rfl, by show 2 ≤ sizeLine; decide, fun T nT => ?_⟩
    have sT := same_new (o := .tup [.ty "list", .ty "tuple"]) nT
    have tT : (upd H T (.tup [.ty "list", .ty "tuple"])) T = some (.tup [.ty "list", .ty "tuple"]) := upd_same
    generalize upd H T (.tup [.ty "list", .ty "tuple"]) = H1 at sT tT ⊢
    have ha1 := sT _ _ ha
    refine ⟨.ref a, T, [.ty "list", .ty "tuple"], _, _, true, rfl, tT, .cons (.ty "list") (.cons (.ty "tuple") .nil), .base (.tup ha1), kit_tup, true, rfl, iteF ?_⟩
    refine ⟨.ref a, rfl, true, .inr (.inl ⟨_, SqT.of ha1, rfl⟩), iteF ?_⟩
    refine ⟨.ref a, rfl, a, _, 0, .str "print", rfl, rfl, SqT.of ha1, rfl, "print", rfl, true, rfl, iteF ?_⟩
    obtain ⟨r, hr1, hr2⟩ := g_SHAPES "print"
    have hs : v_SHAPES b_SHAPES "print" = .ref (b_SHAPES 0) := if_pos rfl
    have hp := p_SHAPES 0 ["text"] rfl
    rw [hs] at hr2
    refine ⟨rfl, .ref a, rfl, a, _, 0, .str "print", rfl, rfl, SqT.of ha1, rfl, "print", r, .ref (b_SHAPES 0), rfl, hr1, hr2, ?_⟩
    refine ⟨_, rfl, rfl, false, congrArg V.bl (decide_eq_false nofun), iteF ?_⟩
    refine ⟨.ref (b_SHAPES 0), rfl, _, _, rfl, .inr (hp _), .ref a, rfl, _, _, rfl, .inr (SqT.of ha1), _, _, rfl, rfl, rfl, false, rfl, iteF ?_⟩
    refine ⟨.ref a, rfl, 1, rfl, a, _, rfl, SqT.of ha1, (fun h => absurd (show HT.sIx 2 0 (some 1) = 0 from h.1) (by decide)), fun p np => ?_⟩
    have s2 := same_new (o := .tup (cutV [V.str "print", V.str x] (some 1) none)) np
    have ep : (upd H1 p (.tup (cutV [V.str "print", V.str x] (some 1) none))) p = some (.tup [V.str x]) := upd_same
    generalize upd H1 p (.tup (cutV [V.str "print", V.str x] (some 1) none)) = H2 at s2 ep ⊢
    refine ⟨.ref (b_SHAPES 0), rfl, p, b_SHAPES 0, _, _, rfl, .inr ⟨SqT.of ep, hp _, fun C nC => ?_⟩⟩
    refine lc_zipT (K := K) (a := p) (b := b_SHAPES 0) (xs := [V.str x]) (ys := [V.str "text"]) rfl (fun i H3 => Same H2 H3 ∧ H3 C = some (.lst ((List.replicate i true).map V.bl))) ⟨same_new nC, upd_same⟩ (fun i H3 h => ⟨SqT.of (h.1 _ _ ep), hp _⟩) ?_ ?_
    · rintro i y z T2 H3 hy hz ⟨s3, eC⟩ nT2
      have hi : i = 0 := by
        have := (List.getElem?_eq_some_iff.mp hy).1
        have : i < 1 := this
        omega
      subst hi
      cases hy
      cases hz
      have sT2 := same_new (o := .tup [V.str x, V.str "text"]) nT2
      refine ⟨T2, _, rfl, SqT.of upd_same, rfl, _, _, rfl, _, _, rfl, rfl, rfl, ?_⟩
      unfold tYes
      show ite (true = true) _ _
      rw [if_pos rfl]
      refine ⟨_, rfl, _, rfl, x, rfl, [], sT2 _ _ eC, by decide, fun b o e => ?_, upd_same⟩
      rw [upd_ne (ne_of_none e nC)]
      exact sT2 _ _ (s3 _ _ e)
    · rintro H3 ⟨s3, eC⟩
      exact ⟨C, [true], rfl, SqL.of eC, k _ (sT.trans (s2.trans s3))⟩
def sp_is_act : Sp := fun vs H Q _ => ∃ (v : V) (xs : List Str), vs = [v] ∧ HAt 3 H v (actL xs) ∧ ∀ H', Same H H' → Q (.bl true) H'
theorem ok_is_act {f : Addr} {fd : FuncData} {dvs : List V} (F : Fn K "is_act" s_is_act dvs f fd) (O_is_deed : Own P w K mg base "is_deed" 3 ["thing"] [] (sp_is_deed)) (m_all : mg "all" = none) (m_isinstance : mg "isinstance" = none) (m_list : mg "list" = none) (m_tuple : mg "tuple" = none) : FnOk P w K mg base CX0 4 f fd ["thing"] (sp_is_act) := by
  refine Fn.okN F sc_is_act (fun vs H Q E h => ?_) (fun cdv A outer s H vs Q E hr h => ?_)
  · obtain ⟨_, _, rfl, _⟩ := h
    rfl
  · obtain ⟨v, xs, rfl, hv, k⟩ := h
    refine ⟨_, (pss_one (ps_ret (pe_and (pe_callB call_isiT (by rfl) m_isinstance (by decide +kernel) (pa_cons (pv 0) (pa_cons (pe_tup (pa_cons (pe_bltn (v := .ty "list") (by rfl) m_list (by decide +kernel) rfl) (pa_cons (pe_bltn (v := .ty "tuple") (by rfl) m_tuple (by decide +kernel) rfl) pa_nil))) pa_nil))) (pe_one (pe_callB (cr_all rfl) (by rfl) m_all (by decide +kernel) (pa_cons (pe_lc (own := [("part", 1)]) (g := gName 1) (tt := tYes) (by rfl) sc_is_act.nd (pi_list (pv 0)) (blkOk_by (own := [("part", 1)]) (N := ["thing", "part"]) (sc := defScope s_is_act) (by decide +kernel)) (fun _ _ _ _ _ => (pg_name (i := 1) sc_is_act.nd rfl (.inl rfl))) (fun _ _ _ _ _ => pts_nil) (fun _ _ _ _ _ => (pe_own O_is_deed (hr.mono (by decide)) (by rfl) (pa_cons (pv 1) pa_nil)))) pa_nil)))))), ?_⟩
    obtain ⟨a, vs, rfl, ha, pr, hl⟩ := hv
    refine ⟨.ref a, rfl, by show 2 ≤ sizeLine; decide, fun T nT => ?_⟩
    have sT := same_new (o := .tup [.ty "list", .ty "tuple"]) nT
    have tT : (upd H T (.tup [.ty "list", .ty "tuple"])) T = some (.tup [.ty "list", .ty "tuple"]) := upd_same
    generalize upd H T (.tup [.ty "list", .ty "tuple"]) = H1 at sT tT ⊢
    have ha1 := sT _ _ ha
    refine ⟨.ref a, T, [.ty "list", .ty "tuple"], _, _, true, rfl, tT, .cons (.ty "list") (.cons (.ty "tuple") .nil), .base (.lst ha1), kit_lst, true, rfl, iteT ?_⟩
    refine ⟨.ref a, rfl, a, rfl, ⟨vs, SqL.of ha1⟩, fun D nD => ?_⟩
    refine lc_rel (K := K) (a := a) (xs := vs) (fun i H y => y = .bl true) (fun s h => h) (SqL.of ha1) nD (small_line hl) (fun _ => rfl) (fun i x H2 Qy hx s2 kk => ?_) fun H2 ys s2 eD hly hR => ?_
    · have hi : i < xs.length := by
        have := paired_len pr
        rw [List.length_map] at this
        rw [← this]
        exact (List.getElem?_eq_some_iff.mp hx).1
      have g : (xs.map prD)[i]? = some (prD xs[i]) := by rw [List.getElem?_map, List.getElem?_eq_getElem hi]; rfl
      exact ⟨x, rfl, x, xs[i], rfl, (paired_at pr hx g).same (sT.trans s2), fun H4 s4 => kk _ H4 s4 rfl⟩
    · have e : ys = (vs.map fun _ => true).map V.bl := by
        rw [List.map_map]
        exact map_of hly fun j y hy x _ => hR j y hy
      refine ⟨D, vs.map fun _ => true, rfl, SqL.of (e ▸ eD), ?_⟩
      have : (vs.map fun _ => true).all id = true := by
        rw [List.all_map, List.all_eq_true]
        exact fun _ _ => rfl
      rw [this]
      exact k _ (sT.trans s2)
/-- a play: the texts and what each prints -/
def PlayD (f : List Str → PyData) (P : List (Str × List Str)) : List (Str × PyData) := P.map fun p => (p.1, f p.2)
def sp_is_play : Sp := fun vs H Q _ => ∃ (p : Addr) (kvs : List (Key × V)) (P : List (Str × List Str)), vs = [.ref p] ∧ H p = some (.dK kvs) ∧ DctAt 3 H kvs (PlayD actL P) ∧ (P.map (·.1)).Nodup ∧ P.length ≤ 1000 ∧ ∀ H', Same H H' → Q (.bl true) H'
theorem playD_keys (f : List Str → PyData) (P : List (Str × List Str)) : (PlayD f P).map (·.1) = P.map (·.1) := by
  unfold PlayD
  rw [List.map_map]
  rfl
theorem ok_is_play {f : Addr} {fd : FuncData} {dvs : List V} (F : Fn K "is_play" s_is_play dvs f fd) (O_is_text : Own P w K mg base "is_text" 1 ["thing"] [] (sp_is_text)) (O_is_act : Own P w K mg base "is_act" 4 ["thing"] [] (sp_is_act)) (m_all : mg "all" = none) (m_dict : mg "dict" = none) (m_isinstance : mg "isinstance" = none) : FnOk P w K mg base CX0 5 f fd ["thing"] (sp_is_play) := by
  refine Fn.okN F sc_is_play (fun vs H Q E h => ?_) (fun cdv A outer s H vs Q E hr h => ?_)
  · obtain ⟨_, _, _, rfl, _⟩ := h
    rfl
  · obtain ⟨p, kvs, P, rfl, hp, hP, nd, hl, k⟩ := h
    refine ⟨_, (pss_one (ps_ret (pe_and (pe_callB call_isi (by rfl) m_isinstance (by decide +kernel) (pa_cons (pv 0) (pa_cons (pe_bltn (v := .ty "dict") (by rfl) m_dict (by decide +kernel) rfl) pa_nil))) (pe_one (pe_callB (cr_all rfl) (by rfl) m_all (by decide +kernel) (pa_cons (pe_lock (pe_lc (own := [("key", 1)]) (g := gName 1) (tt := tYes) (by rfl) sc_is_play.nd (pi_keys (pv 0)) (blkOk_by (own := [("key", 1)]) (N := ["thing", "key"]) (sc := defScope s_is_play) (by decide +kernel)) (fun _ _ _ _ _ => (pg_name (i := 1) sc_is_play.nd rfl (.inl rfl))) (fun _ _ _ _ _ => pts_nil) (fun _ _ _ _ _ => (pe_and (pe_own O_is_text (hr.mono (by decide)) (by rfl) (pa_cons (pv 1) pa_nil)) (pe_one (pe_own O_is_act (hr.mono (by decide)) (by rfl) (pa_cons (pe_dget (hu_of hr) (pv 0) (pv 1) (fun _ _ => rfl)) pa_nil))))))) pa_nil)))))), ?_⟩
    have ndK : (kvs.map (·.1)).Nodup := by
      rw [hP.1]
      exact nodup_inr (by rw [playD_keys]; exact nd)
    have hlen : kvs.length = P.length := by
      rw [hP.len]
      exact List.length_map _
    refine ⟨.ref p, rfl, _, _, _, _, true, rfl, .ty "dict", .base (.dK hp), kit_ty (by decide +kernel), true, rfl, iteT ?_⟩
    refine ⟨p, .dK kvs, hp, trivial, fun od => ⟨.ref p, rfl, p, od, rfl, .inl ⟨kvs, upd_same, fun D nD => ?_⟩⟩⟩
    have nD1 : H D = none := by
      by_cases e : D = p
      · rw [e] at nD
        rw [upd_same] at nD
        cases nD
      · rwa [upd_ne e] at nD
    have pD : p ≠ D := ne_of_none hp nD1
    refine lc_keys (fun i H2 => Same (upd H p (.frz od (.dK kvs))) H2 ∧ H2 D = some (.lst ((List.replicate i true).map V.bl))) ⟨same_new nD, upd_same⟩ (fun i H2 h => h.1 _ _ upd_same) (fun i kk v H2 hk h => ?_) (fun H2 h => ?_)
    · obtain ⟨s2, eD⟩ := h
      have hi : i < P.length := by rw [← hlen]; exact (List.getElem?_eq_some_iff.mp hk).1
      have g : (PlayD actL P)[i]? = some (P[i].1, actL P[i].2) := by
        unfold PlayD
        rw [List.getElem?_map, List.getElem?_eq_getElem hi]
        rfl
      have ekk : kk = Sum.inr P[i].1 := by
        have e1 : (kvs.map (·.1))[i]? = some kk := by rw [List.getElem?_map, hk]; rfl
        rw [hP.1, List.getElem?_map, g] at e1
        exact (Option.some.inj e1).symm
      refine ⟨rfl, ?_⟩
      unfold tYes
      show ite (true = true) _ _
      rw [if_pos rfl]
      subst ekk
      refine ⟨.str P[i].1, rfl, _, rfl, true, rfl, iteT ?_⟩
      refine ⟨.ref p, rfl, .str P[i].1, rfl, p, v, rfl, .inl ⟨kvs, Sum.inr P[i].1, .inr ⟨od, s2 _ _ upd_same⟩, rfl, (valV_ix ndK hk).symm⟩, v, P[i].2, rfl, (hP.2 i _ _ hk g).seqs ((SeqSame.put hp fun xs => ⟨nofun, nofun⟩).trans (SeqSame.of s2)), fun H4 s4 => ?_⟩
      refine ⟨_, s4 _ _ eD, ?_, fun b o e => ?_, ?_⟩
      · rw [List.length_map, List.length_replicate]
        exact small_line (by omega)
      · rw [upd_ne (ne_of_none e nD)]
        exact s4 _ _ (s2 _ _ e)
      · rw [upd_same, List.replicate_succ', List.map_append]
        rfl
    · obtain ⟨s2, eD⟩ := h
      refine ⟨s2 _ _ upd_same, D, List.replicate kvs.length true, rfl, SqL.of (by rw [upd_ne pD.symm]; exact eD), ?_⟩
      have : (List.replicate kvs.length true).all id = true := by
        rw [List.all_eq_true]
        exact fun b hb => (List.eq_of_mem_replicate hb)
      rw [this]
      refine k _ fun b o e => ?_
      by_cases hb : b = p
      · rw [hb] at e ⊢
        rw [hp] at e
        cases e
        exact upd_same
      · rw [upd_ne hb]
        refine s2 _ _ ?_
        rw [upd_ne hb]
        exact e
def sp_require_play : Sp := fun vs H Q _ => ∃ (p : Addr) (kvs : List (Key × V)) (P : List (Str × List Str)), vs = [.ref p] ∧ H p = some (.dK kvs) ∧ DctAt 3 H kvs (PlayD actL P) ∧ (P.map (·.1)).Nodup ∧ P.length ≤ 1000 ∧ ∀ H', Same H H' → Q .non H'
theorem ok_require_play {f : Addr} {fd : FuncData} {dvs : List V} (F : Fn K "require_play" s_require_play dvs f fd) (O_is_play : Own P w K mg base "is_play" 5 ["thing"] [] (sp_is_play)) : FnOk P w K mg base CX0 6 f fd ["thing"] (sp_require_play) := by
  refine Fn.okN F sc_require_play (fun vs H Q E h => ?_) (fun cdv A outer s H vs Q E hr h => ?_)
  · obtain ⟨_, _, _, rfl, _⟩ := h
    rfl
  · obtain ⟨p, kvs, P, rfl, hp, hP, nd, hl, k⟩ := h
    refine ⟨_, (pss_one (ps_if (pt_not (pt_val (pe_own O_is_play (hr.mono (by decide)) (by rfl) (pa_cons (pv 0) pa_nil))))
          (pss_one ps_never)
          pss_nil)), ?_⟩
    exact ⟨.ref p, rfl, p, kvs, P, rfl, hp, hP, nd, hl, fun H' s => ⟨true, rfl, iteF (k H' s)⟩⟩
end

/-! ### what examples tell -/
def concS (xs : List Str) : Str := Txt.join "" xs
def endS (x : Str) : Str := if ((x.length : Int) != 0) = true then fedS x else x
theorem endS_len (x : Str) : (endS x).length ≤ x.length + 1 := by
  unfold endS
  split
  · unfold fedS
    split
    · omega
    · rw [len_app]
      exact Nat.le_refl _
  · omega
theorem joinL_sum0 : ∀ d : List (List Nat), (joinL [] d).length = (d.map (·.length)).sum
  | [] => rfl
  | a :: r => by rw [joinL_flat, List.length_append, joinL_sum0 r, List.map_cons, List.sum_cons]
theorem join0_len (xs : List Str) : (concS xs).length = (xs.map (·.length)).sum := by
  unfold concS
  rw [len_tl, join_eq, tl_join]
  have e0 : tl "" = [] := by decide +kernel
  rw [e0, joinL_sum0, List.map_map]
  exact congrArg List.sum (List.map_congr_left fun x _ => (len_tl x).symm)
/-- an example as data -/
structure ExD where
  src : Str
  wt : Str
  er : V
  n : Int
  i : Int
  br : Str
  kv : List (Key × V)
def ExAt (C : Addr) (H : Hp) (v : V) (e : ExD) : Prop := ∃ (a dx : Addr) (fs : List (Str × V)), v = .ref a ∧ H a = some (.ins C dx fs) ∧ ExF H fs e.src e.wt e.er e.n e.i e.br e.kv
theorem ExF.same {H H' : Hp} (s : Same H H') {fs : List (Str × V)} {src wt : Str} {er : V} {n i : Int} {br : Str} {kv : List (Key × V)} (h : ExF H fs src wt er n i br kv) : ExF H' fs src wt er n i br kv :=
  ⟨h.source, h.want, h.error, h.line, h.indent, let ⟨o, a, b⟩ := h.options; ⟨o, a, s _ _ b⟩, h.bare⟩
theorem ExAt.same {C : Addr} {H H' : Hp} (s : Same H H') {v : V} {e : ExD} (h : ExAt C H v e) : ExAt C H' v e :=
  let ⟨a, dx, fs, e1, e2, e3⟩ := h; ⟨a, dx, fs, e1, s _ _ e2, e3.same s⟩
/-- the word of an example that is not skipped and whose source prints x -/
def wordW (e : ExD) (x : Str) (fl : List Str) : Str := if letsF (tl e.wt) (tl (endS x)) fl = true then "success" else "failure"
/-- the word of an example, and what is got -/
def outW (acts : List Str) (e : ExD) (fl : List Str) : Str × Str := if has "SKIP" fl = true then ("skipped", "") else (wordW e (concS acts) fl, endS (concS acts))
def lookS (P : List (Str × List Str)) (x : Str) : List Str := ((P.find? fun p => decide (p.1 = x)).map (·.2)).getD []
theorem has_tup2 (x : Str) : inV (.str x) [.str "failure", .str "error"] = has x ["failure", "error"] := inV_str x ["failure", "error"]
section
variable {P : Program} {w : World} {K : PySem.W.Frag} {mg : Str → Option Value} {base : Heap}
def sp_done : Sp := fun vs H Q _ => ∃ (v nm : V) (x : Str), vs = [v, nm] ∧ HAt 2 H v (prD x) ∧ ∀ (H' : Hp) (q : Addr), Same H H' → H q = none → H' q = some (.tup [.str x, .non]) → Q (.ref q) H'
theorem ok_done {f : Addr} {fd : FuncData} {dvs : List V} (F : Fn K "done" s_done dvs f fd) : FnOk P w K mg base CX0 1 f fd ["deed", "names"] (sp_done) := by
  refine Fn.okN F sc_done (fun vs H Q E h => ?_) (fun cdv A outer s H vs Q E hr h => ?_)
  · obtain ⟨_, _, _, rfl, _⟩ := h
    rfl
  · obtain ⟨v, nm, x, rfl, hv, k⟩ := h
    refine ⟨_, (pss_cons (ps_asg (pv 0) (pg_starE rfl (pgs_cons (pg_name (i := 2) sc_done.nd rfl (.inl rfl)) (pgs_cons (pg_name (i := 3) sc_done.nd rfl (.inl rfl)) pgs_nil))))
      (pss_cons (ps_if (pt_cmpR op_eq (pv 2) pe_str (nomark _))
          (pss_one (ps_ret (pe_tup (pa_cons (pe_ix ix_list (pv 3) pe_int (fun _ _ => rfl)) (pa_cons pe_non pa_nil)))))
          pss_nil)
      (pss_cons (ps_if (pt_cmpR op_eq (pv 2) pe_str (nomark _)) pss_never pss_nil)
      (pss_cons (ps_if (pt_cmpR op_eq (pv 2) pe_str (nomark _)) pss_never pss_nil)
      (pss_cons ps_never
      (pss_cons (ps_if (pt_cmp (pc_dnotin (hu_of hr) (pv 4) (pv 1))) pss_never pss_nil)
      (pss_cons (ps_if (pt_cmpR op_eq (pv 2) pe_str (nomark _)) pss_never pss_nil)
      (pss_cut ps_never
      (pss_one (ps_ret (pe_tup (pa_cons pe_str (pa_cons pe_non pa_nil))))))))))))), ?_⟩
    obtain ⟨a, rfl, ha⟩ := pr_at hv
    refine ⟨.ref a, rfl, a, .str "print", [.str x], rfl, SqT.of ha, (show 1 ≤ 16000 by decide), fun D nD => ⟨_, _, rfl, _, _, rfl, rfl, ?_⟩⟩
    refine ⟨_, rfl, rfl, true, congrArg V.bl (decide_eq_true rfl), iteT ?_⟩
    refine ⟨.ref D, rfl, D, _, 0, .str x, rfl, rfl, SqL.of upd_same, rfl, by show 2 ≤ sizeLine; decide, fun q nq => ?_⟩
    exact k _ q ((same_new nD).trans (same_new nq)) ((same_new nD).free nq) upd_same
def sp_ended : Sp := fun vs H Q _ => ∃ x : Str, vs = [.str x] ∧ x.length ≤ 90000 ∧ Q (.str (endS x)) H
theorem ok_ended {f : Addr} {fd : FuncData} {dvs : List V} (F : Fn K "ended" s_ended dvs f fd) (O_fed : Own P w K mg base "fed" 1 ["text"] [] (sp_fed)) : FnOk P w K mg base CX0 2 f fd ["printed"] (sp_ended) := by
  refine Fn.okN F sc_ended (fun vs H Q E h => ?_) (fun cdv A outer s H vs Q E hr h => ?_)
  · obtain ⟨_, rfl, _⟩ := h
    rfl
  · obtain ⟨x, rfl, hx, k⟩ := h
    refine ⟨_, (pss_one (ps_ret (pe_ifExp (pt_tr (K' := K) (pv 0)) (pe_own O_fed (hr.mono (by decide)) (by rfl) (pa_cons (pv 0) pa_nil)) (pv 0)))), ?_⟩
    refine ⟨.str x, rfl, _, ⟨line_of (by omega), rfl⟩, ?_⟩
    unfold endS at k
    cases h : ((x.length : Int) != 0) with
    | true =>
      rw [h, if_pos rfl] at k
      exact iteT ⟨.str x, rfl, x, rfl, by omega, k⟩
    | false =>
      rw [h, if_neg Bool.false_ne_true] at k
      exact iteF ⟨_, rfl, k⟩
theorem lookS_at : ∀ {P : List (Str × List Str)} {i : Nat} {x : Str} {xs : List Str}, (P.map (·.1)).Nodup → P[i]? = some (x, xs) → lookS P x = xs
  | p :: r, 0, x, xs, _, h => by
    cases h
    unfold lookS
    rw [List.find?_cons, decide_eq_true rfl]
    rfl
  | p :: r, i + 1, x, xs, nd, h => by
    have h : r[i]? = some (x, xs) := h
    have hn := List.nodup_cons.mp (show (p.1 :: r.map (·.1)).Nodup from nd)
    have ne : p.1 ≠ x := fun z => hn.1 (by rw [z]; exact List.mem_map.mpr ⟨(x, xs), List.mem_of_getElem? h, rfl⟩)
    have ih := lookS_at hn.2 h
    unfold lookS at ih ⊢
    rw [List.find?_cons, decide_eq_false ne]
    exact ih
def sp_played : Sp := fun vs H Q _ => ∃ (p : Addr) (src : Str) (nm : V) (kvs : List (Key × V)) (P : List (Str × List Str)) (acts : List Str) (i : Nat), vs = [.ref p, .str src, nm] ∧ H p = some (.dK kvs) ∧ DctAt 3 H kvs (PlayD actT P) ∧ (P.map (·.1)).Nodup ∧ P[i]? = some (src, acts) ∧ (acts.map (·.length)).sum ≤ 80000 ∧
  ∀ (H' : Hp) (q : Addr), Same H H' → H q = none → H' q = some (.tup [.str (concS acts), .non]) → Q (.ref q) H'
theorem ok_played {f : Addr} {fd : FuncData} {dvs : List V} (F : Fn K "played" s_played dvs f fd) (O_done : Own P w K mg base "done" 1 ["deed", "names"] [] (sp_done)) : FnOk P w K mg base CX0 2 f fd ["play", "source", "names"] (sp_played) := by
  refine Fn.okN F sc_played (fun vs H Q E h => ?_) (fun cdv A outer s H vs Q E hr h => ?_)
  · obtain ⟨_, _, _, _, _, _, _, rfl, _⟩ := h
    rfl
  · obtain ⟨p, src, nm, kvs, P, acts, i, rfl, hp, hP, nd, hi, hz, k⟩ := h
    refine ⟨_, (pss_cons (ps_if (pt_cmp (pc_dnotin (hu_of hr) (pv 1) (pv 0)))
          (pss_one (ps_ret (pe_tup (pa_cons pe_str (pa_cons (pe_tup (pa_cons pe_str (pa_cons pe_str pa_nil))) pa_nil)))))
          pss_nil)
      (pss_cons (ps_set (i := 3) sc_played.nd rfl (.inl rfl) (pe_lst pa_nil))
      (pss_cons (ps_for PassesOwn.never rfl (pi_tup (pe_dget (hu_of hr) (pv 0) (pv 1) (fun _ _ => rfl))) (pg_name (i := 4) sc_played.nd rfl (.inl rfl))
          (pss_cons (ps_asg (pe_own O_done (hr.mono (by decide)) (by rfl) (pa_cons (pv 4) (pa_cons (pv 2) pa_nil))) (pg_tup rfl (pgs_cons (pg_name (i := 5) sc_played.nd rfl (.inl rfl)) (pgs_cons (pg_name (i := 6) sc_played.nd rfl (.inl rfl)) pgs_nil))))
            (pss_cons (ps_expr (pe_bm PySem.F.plainAttrs_list PySem.F.slot_list_append PySem.F.type_list_append mt_append (pv 3) (pa_cons (pv 5) pa_nil)))
            (pss_one (ps_if (pt_cmpR op_notN (pv 6) pe_non (nomark _))
                (pss_one (ps_ret (pe_tup (pa_cons (pe_m1 PySem.F.slot_str_join PySem.F.type_str_join mt_join pe_str (pv 3)) (pa_cons (pv 6) pa_nil)))))
                pss_nil)))))
      (pss_one (ps_ret (pe_tup (pa_cons (pe_m1 PySem.F.slot_str_join PySem.F.type_str_join mt_join pe_str (pv 3)) (pa_cons pe_non pa_nil)))))))), ?_⟩
    have ndK : (kvs.map (·.1)).Nodup := by
      rw [hP.1]
      exact nodup_inr (by rw [playD_keys]; exact nd)
    have hlen : kvs.length = P.length := by
      rw [hP.len]
      exact List.length_map _
    have il : i < kvs.length := by rw [hlen]; exact (List.getElem?_eq_some_iff.mp hi).1
    have g : (PlayD actT P)[i]? = some (src, actT acts) := by
      unfold PlayD
      rw [List.getElem?_map, hi]
      rfl
    obtain ⟨v, hk⟩ : ∃ v, kvs[i]? = some (Sum.inr src, v) := by
      have e1 : (kvs.map (·.1))[i]? = some (Sum.inr src) := by rw [hP.1, List.getElem?_map, g]; rfl
      rw [List.getElem?_map] at e1
      obtain ⟨q, h1, h2⟩ := Option.map_eq_some_iff.mp e1
      obtain ⟨q1, q2⟩ := q
      cases h2
      exact ⟨q2, h1⟩
    have hv := valV_ix ndK hk
    obtain ⟨act, vs, ev, ha, pr, hl⟩ : ∃ a vs, v = .ref a ∧ H a = some (.tup vs) ∧ Paired (HAt 2 H) vs (acts.map prD) ∧ vs.length ≤ 1000 := hP.2 i _ _ hk g
    subst ev
    have la : vs.length = acts.length := by rw [paired_len pr, List.length_map]
    have dg : ∀ H2, Same H H2 → DGet H2 p (.str src) (some (.ref act)) := fun H2 s => by
      rw [← hv]
      exact DGet.k (k := Sum.inr src) (s _ _ hp)
    refine ⟨.str src, rfl, .ref p, rfl, p, some (.ref act), rfl, dg H (fun _ _ e => e), false, rfl, iteF ?_⟩
    refine ⟨by decide, fun L nL => ?_⟩
    have sL := same_new (o := .lst []) nL
    refine ⟨.ref p, rfl, .str src, rfl, p, .ref act, rfl, dg _ sL, act, rfl, ⟨vs, SqT.of (sL _ _ ha)⟩, ?_⟩
    refine for_tup (K := K) (a := act) (xs := vs) (fun i σ H2 => (∃ v4 v5 v6 : Option V, σ = [some (.ref p), some (.str src), some nm, some (.ref L), v4, v5, v6]) ∧ Same H H2 ∧ H2 L = some (.lst ((acts.take i).map V.str))) ⟨⟨none, none, none, rfl⟩, sL, upd_same⟩ (fun i σ H2 _ h => SqT.of (h.2.1 _ _ ha)) ?_ ?_
    · rintro j x σ H2 hx ⟨⟨v4, v5, v6, rfl⟩, s2, eL⟩
      have hj : j < acts.length := by rw [← la]; exact (List.getElem?_eq_some_iff.mp hx).1
      have gj : (acts.map prD)[j]? = some (prD acts[j]) := by rw [List.getElem?_map, List.getElem?_eq_getElem hj]; rfl
      refine ⟨x, rfl, nm, rfl, x, nm, acts[j], rfl, (paired_at pr hx gj).same s2, fun H3 q s3 nq eq => ⟨q, _, rfl, SqT.of eq, rfl, _, _, rfl, _, _, rfl, rfl, ?_⟩⟩
      refine ⟨.ref L, rfl, .inl ⟨rfl, _, SqL.of (s3 _ _ eL)⟩, .str acts[j], rfl, L, _, _, rfl, rfl, s3 _ _ eL, ?_, ?_⟩
      · rw [List.length_map, List.length_take]
        exact small_line (by omega)
      · refine ⟨.non, rfl, rfl, false, rfl, iteF ⟨⟨_, _, _, rfl⟩, fun b o e => ?_, ?_⟩⟩
        · rw [upd_ne (ne_of_none e nL)]
          exact s3 _ _ (s2 _ _ e)
        · rw [upd_same, List.take_add_one, List.getElem?_eq_getElem hj, List.map_append]
          rfl
    · rintro σ H2 ⟨⟨v4, v5, v6, rfl⟩, s2, eL⟩
      rw [la, List.take_length] at eL
      have e0 : ("" : Str).length = 0 := by decide +kernel
      refine ⟨⟨_, rfl⟩, .ref L, rfl, "", L, acts, rfl, rfl, .inl (SqL.of eL), ?_, by show 2 ≤ sizeLine; decide, fun q nq => ?_⟩
      · rw [e0, Nat.mul_zero]
        exact line_of (by omega)
      · exact k _ q (s2.trans (same_new nq)) (s2.free nq) upd_same
def failF (x : Str) : Bool := has x ["failure", "error"]
def sp_has_failed : Sp := fun vs H Q _ => ∃ x : Str, vs = [.str x] ∧ ∀ H', Same H H' → Q (.bl (failF x)) H'
theorem ok_has_failed {f : Addr} {fd : FuncData} {dvs : List V} (F : Fn K "has_failed" s_has_failed dvs f fd) {t_ERROR : Tok} (c_ERROR : mg "ERROR" = some (.str "error" t_ERROR)) {t_FAILURE : Tok} (c_FAILURE : mg "FAILURE" = some (.str "failure" t_FAILURE)) : FnOk P w K mg base CX0 1 f fd ["word"] (sp_has_failed) := by
  refine Fn.okN F sc_has_failed (fun vs H Q E h => ?_) (fun cdv A outer s H vs Q E hr h => ?_)
  · obtain ⟨_, rfl, _⟩ := h
    rfl
  · obtain ⟨x, rfl, k⟩ := h
    refine ⟨_, (pss_one (ps_ret (pe_cmpR op_in_seq (pv 0) (pe_tup (pa_cons (pe_glob (v := .str "failure") rfl c_FAILURE ⟨_, rfl⟩) (pa_cons (pe_glob (v := .str "error") rfl c_ERROR ⟨_, rfl⟩) pa_nil))) rfl))), ?_⟩
    refine ⟨.str x, rfl, by show 2 ≤ sizeLine; decide, fun T nT => ⟨T, _, rfl, .inr (SqT.of upd_same), rfl, rfl, ?_⟩⟩
    rw [has_tup2]
    exact k _ (same_new nT)
def sp_got_in_all : Sp := fun vs H Q _ => ∃ x : Str, vs = [.str x, .non] ∧ Q (.str x) H
theorem ok_got_in_all {f : Addr} {fd : FuncData} {dvs : List V} (F : Fn K "got_in_all" s_got_in_all dvs f fd) : FnOk P w K mg base CX0 1 f fd ["got", "error"] (sp_got_in_all) := by
  refine Fn.okN F sc_got_in_all (fun vs H Q E h => ?_) (fun cdv A outer s H vs Q E hr h => ?_)
  · obtain ⟨_, rfl, _⟩ := h
    rfl
  · obtain ⟨x, rfl, k⟩ := h
    refine ⟨_, (pss_one (ps_ret (pe_ifExp (pt_cmpR op_isN (pv 1) pe_non (nomark _)) (pv 0) pe_never))), ?_⟩
    exact ⟨.non, rfl, rfl, true, rfl, iteT ⟨_, rfl, k⟩⟩
def sp_word_of (K : PySem.W.Frag) (C : Addr) : Sp := fun vs H Q _ => ∃ (v : V) (e : ExD) (x : Str) (fl : Addr) (xs : List Str), vs = [v, .str (endS x), .non, .ref fl] ∧ ExAt C H v e ∧ e.wt.length ≤ 1000000 ∧ x.length ≤ 100000 ∧ SqA K H fl (xs.map V.str) ∧ has "NORMALIZE_WHITESPACE" xs = false ∧ ∀ H', Same H H' → Q (.str (wordW e x xs)) H'
theorem ok_word_of {f : Addr} {fd : FuncData} {dvs : List V} (F : Fn K "word_of" s_word_of dvs f fd) {C_Example : Addr} (T_Example : Txt_Example K mg C_Example) (O_lets_by : Own P w K mg base "lets_by" 4 ["want", "got", "flags"] [] (sp_lets_by K)) {t_FAILURE : Tok} (c_FAILURE : mg "FAILURE" = some (.str "failure" t_FAILURE)) {t_SUCCESS : Tok} (c_SUCCESS : mg "SUCCESS" = some (.str "success" t_SUCCESS)) : FnOk P w K mg base CX0 5 f fd ["example", "got", "error", "flags"] (sp_word_of K C_Example) := by
  refine Fn.okN F sc_word_of (fun vs H Q E h => ?_) (fun cdv A outer s H vs Q E hr h => ?_)
  · obtain ⟨_, _, _, _, _, rfl, _⟩ := h
    rfl
  · obtain ⟨v, e, x, fl, xs, rfl, he, lw, lx, hf, hn, k⟩ := h
    refine ⟨_, (pss_cut (ps_if (pt_cmpR op_isN (pv 2) pe_non (nomark _))
          (pss_one (ps_set (i := 4) sc_word_of.nd rfl (.inl rfl) (pe_own O_lets_by (hr.mono (by decide)) (by rfl) (pa_cons (pe_fldK (K' := K) rfl (pv 0) rfl) (pa_cons (pv 1) (pa_cons (pv 3) pa_nil))))))
          (pss_one (ps_if (pt_cmpR op_isN (pe_fldK (K' := K) rfl (pv 0) rfl) pe_non (nomark _))
                (pss_one ps_never)
                (pss_one ps_never))))
      (pss_one (ps_ret (pe_ifExp (pt_val (pv 4)) (pe_glob (v := .str "success") rfl c_SUCCESS ⟨_, rfl⟩) (pe_glob (v := .str "failure") rfl c_FAILURE ⟨_, rfl⟩))))), ?_⟩
    obtain ⟨a, dx, fs, rfl, ha, ef⟩ := he
    have l2 := endS_len x
    refine ⟨fun σ H1 => Same H H1 ∧ σ = [some (.ref a), some (.str (endS x)), some .non, some (.ref fl), some (.bl (letsF (tl e.wt) (tl (endS x)) xs))], ?_, ?_⟩
    · refine ⟨.non, rfl, rfl, true, rfl, iteT ⟨.ref a, rfl, a, C_Example, dx, fs, _, rfl, ha, T_Example.cl, T_Example.n_want, ef.want, .str (endS x), rfl, .ref fl, rfl, e.wt, endS x, fl, xs, rfl, lw, by omega, hf, hn, fun H1 s1 => ⟨s1, rfl⟩⟩⟩
    · rintro σ H1 ⟨s1, rfl⟩
      refine ⟨.bl _, rfl, _, rfl, ?_⟩
      unfold wordW at k
      cases h : letsF (tl e.wt) (tl (endS x)) xs with
      | true =>
        rw [h, if_pos rfl] at k
        exact iteT (k _ s1)
      | false =>
        rw [h, if_neg Bool.false_ne_true] at k
        exact iteF (k _ s1)
def sp_outcome_of (K : PySem.W.Frag) (C : Addr) : Sp := fun vs H Q _ => ∃ (v : V) (e : ExD) (p : Addr) (nm : V) (kvs : List (Key × V)) (P : List (Str × List Str)) (acts : List Str) (i : Nat) (fl : Addr) (xs : List Str), vs = [v, .ref p, nm, .ref fl] ∧ ExAt C H v e ∧ e.wt.length ≤ 1000000 ∧ H p = some (.dK kvs) ∧ DctAt 3 H kvs (PlayD actT P) ∧ (P.map (·.1)).Nodup ∧ P[i]? = some (e.br, acts) ∧ (acts.map (·.length)).sum ≤ 80000 ∧ SqA K H fl (xs.map V.str) ∧ has "NORMALIZE_WHITESPACE" xs = false ∧
  ∀ (H' : Hp) (q : Addr), Same H H' → H q = none → H' q = some (.tup [.str (outW acts e xs).1, .str (outW acts e xs).2, .non]) → Q (.ref q) H'
theorem ok_outcome_of {f : Addr} {fd : FuncData} {dvs : List V} (F : Fn K "outcome_of" s_outcome_of dvs f fd) {C_Example : Addr} (T_Example : Txt_Example K mg C_Example) (O_played : Own P w K mg base "played" 2 ["play", "source", "names"] [] (sp_played)) (O_ended : Own P w K mg base "ended" 2 ["printed"] [] (sp_ended)) (O_word_of : Own P w K mg base "word_of" 5 ["example", "got", "error", "flags"] [] (sp_word_of K C_Example)) {t_SKIP : Tok} (c_SKIP : mg "SKIP" = some (.str "SKIP" t_SKIP)) {t_SKIPPED : Tok} (c_SKIPPED : mg "SKIPPED" = some (.str "skipped" t_SKIPPED)) : FnOk P w K mg base CX0 6 f fd ["example", "play", "names", "flags"] (sp_outcome_of K C_Example) := by
  refine Fn.okN F sc_outcome_of (fun vs H Q E h => ?_) (fun cdv A outer s H vs Q E hr h => ?_)
  · obtain ⟨_, _, _, _, _, _, _, _, _, _, rfl, _⟩ := h
    rfl
  · obtain ⟨v, e, p, nm, kvs, P, acts, i, fl, xs, rfl, he, lw, hp, hP, nd, hi, hz, hf, hn, k⟩ := h
    refine ⟨_, (pss_cons (ps_if (pt_cmpR op_in_seq (pe_glob (v := .str "SKIP") rfl c_SKIP ⟨_, rfl⟩) (pv 3) rfl)
          (pss_one (ps_ret (pe_tup (pa_cons (pe_glob (v := .str "skipped") rfl c_SKIPPED ⟨_, rfl⟩) (pa_cons pe_str (pa_cons pe_non pa_nil))))))
          pss_nil)
      (pss_cons (ps_asg (pe_own O_played (hr.mono (by decide)) (by rfl) (pa_cons (pv 1) (pa_cons (pe_fldK (K' := K) rfl (pv 0) rfl) (pa_cons (pv 2) pa_nil)))) (pg_tup rfl (pgs_cons (pg_name (i := 4) sc_outcome_of.nd rfl (.inl rfl)) (pgs_cons (pg_name (i := 5) sc_outcome_of.nd rfl (.inl rfl)) pgs_nil))))
      (pss_cons (ps_set (i := 6) sc_outcome_of.nd rfl (.inl rfl) (pe_own O_ended (hr.mono (by decide)) (by rfl) (pa_cons (pv 4) pa_nil)))
      (pss_one (ps_ret (pe_tup (pa_cons (pe_own O_word_of (hr.mono (by decide)) (by rfl) (pa_cons (pv 0) (pa_cons (pv 6) (pa_cons (pv 5) (pa_cons (pv 3) pa_nil))))) (pa_cons (pv 6) (pa_cons (pv 5) pa_nil))))))))), ?_⟩
    refine ⟨.ref fl, rfl, fl, _, rfl, hf, rfl, flat_strs xs, _, rfl, ?_⟩
    rw [inV_str]
    unfold outW at k
    have he0 := he
    obtain ⟨a, dx, fs, rfl, ha, ef⟩ := he
    cases h : has "SKIP" xs with
    | true =>
      rw [h, if_pos rfl] at k
      exact iteT ⟨by show 3 ≤ sizeLine; decide, fun q nq => k _ q (same_new nq) nq upd_same⟩
    | false =>
      rw [h, if_neg Bool.false_ne_true] at k
      refine iteF ⟨.ref p, rfl, .ref a, rfl, a, C_Example, dx, fs, _, rfl, ha, T_Example.cl, T_Example.n_bare, ef.bare, nm, rfl, p, e.br, nm, kvs, P, acts, i, rfl, hp, hP, nd, hi, hz, fun H1 q1 s1 n1 e1 => ⟨q1, _, rfl, SqT.of e1, rfl, _, _, rfl, _, _, rfl, rfl, ?_⟩⟩
      have lc := join0_len acts
      refine ⟨.str _, rfl, _, rfl, by omega, ?_⟩
      refine ⟨.ref a, rfl, .str _, rfl, .non, rfl, .ref fl, rfl, .ref a, e, concS acts, fl, xs, rfl, he0.same s1, lw, by omega, seqA_of s1 hf, hn, fun H2 s2 => ⟨.str _, rfl, .non, rfl, by show 3 ≤ sizeLine; decide, fun q nq => ?_⟩⟩
      exact k _ q ((s1.trans s2).trans (same_new nq)) ((s1.trans s2).free nq) upd_same
end

/-! ### flags in force, reports -/
def forceF (xs : List Str) (kv : List (Key × V)) : List Str := v_FLAGS.filter fun f => match valV kv (Sum.inr f) with
  | some (.bl b) => b
  | _ => has f xs
theorem force_flags (xs : List Str) (kv : List (Key × V)) : ∀ z ∈ forceF xs kv, has z v_FLAGS = true := fun z hz => has_iff.mpr (List.mem_filter.mp hz).1
def BoolVals (kv : List (Key × V)) : Prop := ∀ q ∈ kv, ∃ b : Bool, q.2 = .bl b
/-- the fields of a test -/
def tsFs (nm ex : V) (name : Str) (file line : V) : List (Str × V) := [("_names", nm), ("_examples", ex), ("name", .str name), ("file", file), ("line", line)]
/-- a comprehension over a tuple with a test that writes nothing -/
theorem lc_tupF {K : PySem.W.Frag} {a : Addr} {xs : List V} {j : Nat} {tt : TT} {vs : List Nat} {σ : L2.St} {H1 : Hp} {D : Addr} {Qd : Hp → Prop} (p : V → Bool) (hq : ∀ H2, Same H1 H2 → SqT K H2 a xs) (nD : H1 D = none) (hz : xs.length < sizeLine) (hw : ∀ x, wipe ((wipe σ vs).set j (some x)) vs = wipe σ vs)
    (hj : ∀ x : V, ((wipe σ vs).set j (some x))[j]? = some (some x))
    (each : ∀ (i : Nat) (x : V) (H2 : Hp) (Qb : Bool → Hp → Prop), xs[i]? = some x → Same H1 H2 → Qb (p x) H2 → tt ((wipe σ vs).set j (some x)) H2 Qb)
    (fin : ∀ H' : Hp, Same H1 H' → H' D = some (.lst (xs.filter p)) → Qd H') :
    ∃ W : Nat → Nat → Hp → Prop, (∃ m, W 0 m (upd H1 D (.lst []))) ∧ ∀ i m H, W i m H →
      ((Itt K a).stop i H ∧ Qd H) ∨ ((Itt K a).go i H ∧ ∃ Nx : Hp → Prop, (∀ H', Nx H' → ∃ m', m' < m ∧ W (i + 1) m' H') ∧ ∀ x H', (Itt K a).yld i H x H' → gName j x (wipe σ vs) H' fun σ2 H2 => wipe σ2 vs = wipe σ vs ∧ tt σ2 H2 fun b H3 =>
        if b = true then tVar j σ2 H3 fun y H4 => ∃ acc, H4 D = some (.lst acc) ∧ acc.length < sizeLine ∧ Nx (upd H4 D (.lst (acc ++ [y]))) else Nx H3) := by
  refine lc_tup (K := K) (a := a) (xs := xs) (fun i H => Same H1 H ∧ H D = some (.lst ((xs.take i).filter p))) ⟨same_new nD, upd_same⟩ (fun i H _ h => hq H h.1) (fun i x H hx h => ?_) (fun H h => ?_)
  · refine ⟨hw _, each i x H _ hx h.1 ?_⟩
    have lt : (xs.take (i + 1)).filter p = (xs.take i).filter p ++ (if p x then [x] else []) := take_filter p hx
    cases hp : p x with
    | true =>
      rw [if_pos rfl]
      refine ⟨_, hj _, _, h.2, Nat.lt_of_le_of_lt (Nat.le_trans (List.length_filter_le _ _) (List.length_take_le' _ _)) hz, fun b o e => ?_, ?_⟩
      · rw [upd_ne (ne_of_none e nD)]
        exact h.1 _ _ e
      · rw [upd_same, lt, hp]
        rfl
    | false =>
      rw [if_neg Bool.false_ne_true]
      refine ⟨h.1, ?_⟩
      rw [h.2, lt, hp]
      exact congrArg (fun l => some (HO.lst l)) (List.append_nil _).symm
  · rw [List.take_length] at h
    exact fin H h.1 h.2
theorem valV_mem {kvs : List (Key × V)} {k : Key} {v : V} (h : valV kvs k = some v) : ∃ q ∈ kvs, q.2 = v := by
  unfold valV at h
  obtain ⟨q, h1, h2⟩ := Option.map_eq_some_iff.mp h
  exact ⟨q, List.mem_of_find?_eq_some h1, h2⟩
section
variable {P : Program} {w : World} {K : PySem.W.Frag} {mg : Str → Option Value} {base : Heap}
def sp_in_force (K : PySem.W.Frag) : Sp := fun vs H Q _ => ∃ (fl d : Addr) (xs : List Str) (kv : List (Key × V)), vs = [.ref fl, .ref d] ∧ SqL K H fl (xs.map V.str) ∧ H d = some (.dK kv) ∧ BoolVals kv ∧ ∀ (H' : Hp) (L : Addr), Same H H' → H L = none → H' L = some (.lst ((forceF xs kv).map V.str)) → Q (.ref L) H'
theorem ok_in_force {f : Addr} {fd : FuncData} {dvs : List V} (F : Fn K "in_force" s_in_force dvs f fd) {a_FLAGS : Addr} (c_FLAGS : mg "FLAGS" = some (.ref a_FLAGS)) (q_FLAGS : ∀ H, SqT K H a_FLAGS (v_FLAGS.map V.str)) : FnOk P w K mg base CX0 1 f fd ["flags", "options"] (sp_in_force K) := by
  refine Fn.okN F sc_in_force (fun vs H Q E h => ?_) (fun cdv A outer s H vs Q E hr h => ?_)
  · obtain ⟨_, _, _, _, rfl, _⟩ := h
    rfl
  · obtain ⟨fl, d, xs, kv, rfl, hf, hd, hb, k⟩ := h
    refine ⟨_, (pss_one (ps_ret (pe_lc (own := [("flag", 2)]) (g := gName 2) (by rfl) sc_in_force.nd (pi_tup (pe_glob (v := .ref a_FLAGS) rfl c_FLAGS rfl)) (blkOk_by (own := [("flag", 2)]) (N := ["flags", "options", "flag"]) (sc := defScope s_in_force) (by decide +kernel)) (fun _ _ _ _ _ => (pg_name (i := 2) sc_in_force.nd rfl (.inl rfl))) (fun _ _ _ _ _ => (pts_one (pt_val (pe_dget2 (hu_of hr) (pv 1) (pv 2) (pe_cmpR (op_in_seqK (K' := K) rfl) (pv 2) (pv 0) rfl) ⟨rfl, rfl, rfl, rfl⟩)))) (fun _ _ _ _ _ => (pv 2))))), ?_⟩
    refine ⟨a_FLAGS, rfl, ⟨_, q_FLAGS _⟩, fun D nD => ?_⟩
    refine lc_tupF (K := K) (a := a_FLAGS) (xs := v_FLAGS.map V.str) (fun v => match v with | .str f => (match valV kv (Sum.inr f) with | some (.bl b) => b | _ => has f xs) | _ => false) (fun H2 _ => q_FLAGS H2) nD (by rw [List.length_map]; exact small_line (by decide)) (fun _ => rfl) (fun _ => rfl) (fun i x H2 Qb hx s2 kk => ?_) fun H2 s2 eD => ?_
    · obtain ⟨f, rfl, _⟩ := str_at hx
      refine ⟨.ref d, rfl, d, rfl, .inl ⟨kv, .inl (s2 _ _ hd)⟩, .str f, rfl, .str f, rfl, .ref fl, rfl, fl, _, rfl, .inl (s2.seq hf), rfl, flat_strs xs, valV kv (Sum.inr f), DGet.k (k := Sum.inr f) (s2 _ _ hd), ?_⟩
      rw [inV_str] 
      have kk : Qb (match valV kv (Sum.inr f) with | some (.bl b) => b | _ => has f xs) H2 := kk
      cases e : valV kv (Sum.inr f) with
      | none =>
        rw [e] at kk
        exact ⟨_, rfl, kk⟩
      | some v =>
        obtain ⟨q, hq, rfl⟩ := valV_mem e
        obtain ⟨b, hb2⟩ := hb q hq
        rw [hb2] at e ⊢
        rw [e] at kk
        exact ⟨_, rfl, kk⟩
    · refine k _ D s2 nD ?_
      rw [eD, List.filter_map]
      rfl
def sp_place_of (CE CT : Addr) : Sp := fun vs H Q _ => ∃ (t dx : Addr) (nm ex : V) (name : Str) (line : V) (v : V) (e : ExD), vs = [.ref t, v] ∧ H t = some (.ins CT dx (tsFs nm ex name .non line)) ∧ ExAt CE H v e ∧ name.length ≤ 1000 ∧ e.n.natAbs < 1000000 ∧ ∀ s : Str, s.length ≤ 3000 → Q (.str s) H
theorem ok_place_of {f : Addr} {fd : FuncData} {dvs : List V} (F : Fn K "place_of" s_place_of dvs f fd) {C_Example : Addr} (T_Example : Txt_Example K mg C_Example) {C_Test : Addr} (T_Test : Txt_Test K mg C_Test) : FnOk P w K mg base CX0 1 f fd ["test", "example"] (sp_place_of C_Example C_Test) := by
  refine Fn.okN F sc_place_of (fun vs H Q E h => ?_) (fun cdv A outer s H vs Q E hr h => ?_)
  · obtain ⟨_, _, _, _, _, _, _, _, rfl, _⟩ := h
    rfl
  · obtain ⟨t, dx, nm, ex, name, line, v, e, rfl, ht, he, ln, hn, k⟩ := h
    refine ⟨_, (pss_cons (ps_if (pt_cmpR op_isN (pe_fldK (K' := K) rfl (pv 0) rfl) pe_non (nomark _))
          (pss_one (ps_ret (pe_joined (PJ.cons pe_str (PJ.cons (pe_fmt (pe_fldK (K' := K) rfl (pv 1) rfl)) (PJ.cons pe_str (PJ.cons (pe_fmt (pe_fldK (K' := K) rfl (pv 0) rfl)) PJ.nil)))))))
          pss_nil)
      (pss_cons ps_never
      (pss_one ps_never))), ?_⟩
    obtain ⟨a, dxe, fs, rfl, ha, ef⟩ := he
    refine ⟨.ref t, rfl, t, C_Test, dx, _, _, rfl, ht, T_Test.cl, T_Test.n_file, rfl, rfl, true, rfl, iteT ?_⟩
    have e1 : ("Line " : Str).length = 5 := by decide +kernel
    have e2 : (", in " : Str).length = 5 := by decide +kernel
    have e0 : Str.empty.length = 0 := rfl
    have hl : e.n.natAbs.log2 < 1920 := by
      by_cases h0 : e.n.natAbs = 0
      · rw [h0]
        decide
      · exact (Nat.log2_lt h0).mpr (Nat.lt_of_lt_of_le hn (Nat.le_trans (by decide : 1000000 ≤ 2 ^ 20) (Nat.pow_le_pow_right (by decide) (by decide))))
    have l3 := PyProof.Rows.int_text_len_1921 hl
    have z1 := len_app Str.empty "Line "
    have z2 := len_app (Str.empty ++ "Line ") (Str.ofString (toString e.n))
    have z3 := len_app (Str.empty ++ "Line " ++ Str.ofString (toString e.n)) ", in "
    have z4 := len_app (Str.empty ++ "Line " ++ Str.ofString (toString e.n) ++ ", in ") name
    refine ⟨"Line ", rfl, line_of (by omega), ⟨.ref a, rfl, a, C_Example, dxe, fs, _, rfl, ha, T_Example.cl, T_Example.n_line, ef.line, .inr ⟨e.n, rfl, hl, _, rfl, line_of (by omega), ", in ", rfl, line_of (by omega), ?_⟩⟩⟩
    exact ⟨.ref t, rfl, t, C_Test, dx, _, _, rfl, ht, T_Test.cl, T_Test.n_name, rfl, .inl ⟨name, rfl, line_of (by omega), name, rfl, line_of (by omega), k _ (by omega)⟩⟩
def sp_failure_report (K : PySem.W.Frag) (CE CT : Addr) : Sp := fun vs H Q _ => ∃ (t dx o fl : Addr) (nm ex : V) (name : Str) (line : V) (v : V) (e : ExD) (word got : Str) (xs : List Str), vs = [.ref t, v, .ref o, .ref fl] ∧ H t = some (.ins CT dx (tsFs nm ex name .non line)) ∧ ExAt CE H v e ∧ name.length ≤ 1000 ∧ e.n.natAbs < 1000000 ∧
  H o = some (.tup [.str word, .str got, .non]) ∧ word ≠ "error" ∧ e.wt.length ≤ 150 ∧ e.src.length ≤ 1000 ∧ got.length ≤ 150 ∧ SqA K H fl (xs.map V.str) ∧ (∀ z ∈ xs, has z v_FLAGS = true) ∧ ∀ (H' : Hp) (s : Str), Same H H' → s.length ≤ 35000 → Q (.str s) H'
theorem ok_failure_report {f : Addr} {fd : FuncData} {dvs : List V} (F : Fn K "failure_report" s_failure_report dvs f fd) {C_Example : Addr} (T_Example : Txt_Example K mg C_Example) {C_Test : Addr} (T_Test : Txt_Test K mg C_Test) (O_difference_text : Own P w K mg base "difference_text" 3 ["want", "got", "flags"] [] (sp_difference_text K)) (O_got_in_all : Own P w K mg base "got_in_all" 1 ["got", "error"] [] (sp_got_in_all)) (O_place_of : Own P w K mg base "place_of" 1 ["test", "example"] [] (sp_place_of C_Example C_Test)) (O_indented : Own P w K mg base "indented" 1 ["text"] [] (sp_indented)) {t_ERROR : Tok} (c_ERROR : mg "ERROR" = some (.str "error" t_ERROR)) {t_STARS : Tok} (c_STARS : mg "STARS" = some (.str "**********************************************************************\n" t_STARS)) : FnOk P w K mg base CX0 4 f fd ["test", "example", "outcome", "flags"] (sp_failure_report K C_Example C_Test) := by
  refine Fn.okN F sc_failure_report (fun vs H Q E h => ?_) (fun cdv A outer s H vs Q E hr h => ?_)
  · obtain ⟨_, _, _, _, _, _, _, _, _, _, _, _, _, rfl, _⟩ := h
    rfl
  · obtain ⟨t, dx, o, fl, nm, ex, name, line, v, e, word, got, xs, rfl, ht, he, ln, hn, ho, hw, lw, ls, lg, hf, hfl, k⟩ := h
    refine ⟨_, (pss_cons (ps_asg (pv 2) (pg_tup rfl (pgs_cons (pg_name (i := 4) sc_failure_report.nd rfl (.inl rfl)) (pgs_cons (pg_name (i := 5) sc_failure_report.nd rfl (.inl rfl)) (pgs_cons (pg_name (i := 6) sc_failure_report.nd rfl (.inl rfl)) pgs_nil)))))
      (pss_cut (ps_if (pt_cmpR op_eq (pv 4) (pe_glob (v := .str "error") rfl c_ERROR ⟨_, rfl⟩) (nomark _))
          (pss_one (ps_set (i := 7) sc_failure_report.nd rfl (.inl rfl) pe_never))
          (pss_one (ps_set (i := 7) sc_failure_report.nd rfl (.inl rfl) (pe_own O_difference_text (hr.mono (by decide)) (by rfl) (pa_cons (pe_fldK (K' := K) rfl (pv 1) rfl) (pa_cons (pe_own O_got_in_all (hr.mono (by decide)) (by rfl) (pa_cons (pv 5) (pa_cons (pv 6) pa_nil))) (pa_cons (pv 3) pa_nil)))))))
      (pss_one (ps_ret (pe_joined (PJ.cons (pe_fmt (pe_glob (v := .str "**********************************************************************\n") rfl c_STARS ⟨_, rfl⟩)) (PJ.cons (pe_fmt (pe_own O_place_of (hr.mono (by decide)) (by rfl) (pa_cons (pv 0) (pa_cons (pv 1) pa_nil)))) (PJ.cons pe_str (PJ.cons (pe_fmt (pe_own O_indented (hr.mono (by decide)) (by rfl) (pa_cons (pe_fldK (K' := K) rfl (pv 1) rfl) pa_nil))) (PJ.cons (pe_fmt (pv 7)) PJ.nil)))))))))), ?_⟩
    have he0 := he
    obtain ⟨a, dxe, fs, rfl, ha, ef⟩ := he
    refine ⟨.ref o, rfl, o, _, rfl, SqT.of ho, rfl, _, _, rfl, _, _, rfl, _, _, rfl, rfl, ?_⟩
    refine ⟨fun σ H1 => ∃ td : Str, Same H H1 ∧ td.length ≤ 24000 ∧ σ = [some (.ref t), some (.ref a), some (.ref o), some (.ref fl), some (.str word), some (.str got), some .non, some (.str td)], ?_, ?_⟩
    · refine ⟨.str word, rfl, rfl, false, congrArg V.bl (decide_eq_false fun z => hw (V.str.inj z)), iteF ?_⟩
      exact ⟨.ref a, rfl, a, C_Example, dxe, fs, _, rfl, ha, T_Example.cl, T_Example.n_want, ef.want, .str got, rfl, .non, rfl, got, rfl, .ref fl, rfl, e.wt, got, fl, xs, rfl, lw, lg, hf, hfl, fun H1 s s1 _ l1 => ⟨s, s1, l1, rfl⟩⟩
    · rintro σ H1 ⟨td, s1, ltd, rfl⟩
      have l1 : ("**********************************************************************\n" : Str).length = 71 := by decide +kernel
      have l2 : ("\nFailed example:\n" : Str).length = 17 := by decide +kernel
      have l0 : Str.empty.length = 0 := rfl
      refine .inl ⟨_, rfl, line_of (by omega), _, rfl, line_of (by simp only [len_app]; omega), .ref t, rfl, .ref a, rfl, t, dx, nm, ex, name, line, .ref a, e, rfl, s1 _ _ ht, he0.same s1, ln, hn, fun p lp => ?_⟩
      refine .inl ⟨p, rfl, line_of (by omega), p, rfl, line_of (by simp only [len_app]; omega), _, rfl, line_of (by simp only [len_app]; omega), .ref a, rfl, a, C_Example, dxe, fs, _, rfl, s1 _ _ ha, T_Example.cl, T_Example.n_source, ef.source, e.src, rfl, by omega, fun H2 q s2 eq => ?_⟩
      have lq : q.length ≤ 5000 := by
        rw [len_tl, eq]
        have := mov_len (tl e.src) true
        rw [← len_tl] at this
        omega
      refine .inl ⟨q, rfl, line_of (by omega), q, rfl, line_of (by simp only [len_app]; omega), .str td, rfl, .inl ⟨td, rfl, line_of (by omega), td, rfl, line_of (by simp only [len_app]; omega), k _ _ (s1.trans s2) (by simp only [len_app]; omega)⟩⟩
def sp_report_of (K : PySem.W.Frag) (CE CT : Addr) : Sp := fun vs H Q _ => ∃ (t dx o fl : Addr) (nm ex : V) (name : Str) (line : V) (v : V) (e : ExD) (word got : Str) (xs : List Str), vs = [.ref t, v, .ref o, .ref fl, .bl false] ∧ H t = some (.ins CT dx (tsFs nm ex name .non line)) ∧ ExAt CE H v e ∧ name.length ≤ 1000 ∧ e.n.natAbs < 1000000 ∧
  H o = some (.tup [.str word, .str got, .non]) ∧ word ≠ "error" ∧ e.wt.length ≤ 150 ∧ e.src.length ≤ 1000 ∧ got.length ≤ 150 ∧ SqA K H fl (xs.map V.str) ∧ (∀ z ∈ xs, has z v_FLAGS = true) ∧ ∀ (H' : Hp) (s : Str), Same H H' → s.length ≤ 36000 → Q (.str s) H'
theorem ok_report_of {f : Addr} {fd : FuncData} {dvs : List V} (F : Fn K "report_of" s_report_of dvs f fd) {C_Example : Addr} (T_Example : Txt_Example K mg C_Example) {C_Test : Addr} (T_Test : Txt_Test K mg C_Test) (O_has_failed : Own P w K mg base "has_failed" 1 ["word"] [] (sp_has_failed)) (O_failure_report : Own P w K mg base "failure_report" 4 ["test", "example", "outcome", "flags"] [] (sp_failure_report K C_Example C_Test)) : FnOk P w K mg base CX0 5 f fd ["test", "example", "outcome", "flags", "verbose"] (sp_report_of K C_Example C_Test) := by
  refine Fn.okN F sc_report_of (fun vs H Q E h => ?_) (fun cdv A outer s H vs Q E hr h => ?_)
  · obtain ⟨_, _, _, _, _, _, _, _, _, _, _, _, _, rfl, _⟩ := h
    rfl
  · obtain ⟨t, dx, o, fl, nm, ex, name, line, v, e, word, got, xs, rfl, ht, he, ln, hn, ho, hw, lw, ls, lg, hf, hfl, k⟩ := h
    refine ⟨_, (pss_cons (ps_set (i := 5) sc_report_of.nd rfl (.inl rfl) (pe_ifExp (pt_val (pv 4)) pe_never pe_str))
      (pss_cons (ps_if (pt_val (pe_own O_has_failed (hr.mono (by decide)) (by rfl) (pa_cons (pe_ix ix_tup (pv 2) pe_int (fun _ _ => rfl)) pa_nil)))
          (pss_one (ps_ret (pe_op op_add_str (pv 5) (pe_own O_failure_report (hr.mono (by decide)) (by rfl) (pa_cons (pv 0) (pa_cons (pv 1) (pa_cons (pv 2) (pa_cons (pv 3) pa_nil))))))))
          pss_nil)
      (pss_one (ps_ret (pe_ifExp (pt_val (pv 4)) (pe_op op_add_str (pv 5) pe_str) pe_str))))), ?_⟩
    refine ⟨.bl false, rfl, _, rfl, iteF ⟨.ref o, rfl, o, _, 0, .str word, rfl, rfl, SqT.of ho, rfl, word, rfl, fun H1 s1 => ⟨_, rfl, ?_⟩⟩⟩
    cases h : failF word with
    | true =>
      refine iteT ⟨_, rfl, .ref t, rfl, v, rfl, .ref o, rfl, .ref fl, rfl, t, dx, o, fl, nm, ex, name, line, v, e, word, got, xs, rfl, s1 _ _ ht, he.same s1, ln, hn, s1 _ _ ho, hw, lw, ls, lg, seqA_of s1 hf, hfl, fun H2 s s2 l2 => ?_⟩
      have l0 : ("" : Str).length = 0 := by decide +kernel
      exact ⟨"", s, rfl, rfl, line_of (by omega), k _ _ (s1.trans s2) (by rw [len_app]; omega)⟩
    | false => exact iteF ⟨.bl false, rfl, _, rfl, iteF (k _ _ s1 (by decide +kernel))⟩
end

/-! ### sorted texts -/
theorem rising_pw : ∀ (r : List Str) (p : Str), risingS p r = true → (p :: r).Pairwise fun a b => tl a ≤ tl b
  | [], p, _ => List.pairwise_singleton _ _
  | x :: r, p, h => by
    have h : (!PySem.Spec.ltCps x.cps.toList p.cps.toList && risingS x r) = true := h
    rw [Bool.and_eq_true, Bool.not_eq_true', ltCps_eq, decide_eq_false_iff_not] at h
    have ih := rising_pw r x h.2
    refine List.pairwise_cons.mpr ⟨fun y hy => ?_, ih⟩
    have hpx : tl p ≤ tl x := List.not_lt.mp h.1
    rcases List.mem_cons.mp hy with rfl | hy
    · exact hpx
    · exact List.le_trans hpx (List.rel_of_pairwise_cons ih hy)
theorem sorted_pw {l : List Str} (h : sortedS l = true) : l.Pairwise fun a b => tl a ≤ tl b := by
  cases l with
  | nil => exact .nil
  | cons x r => exact rising_pw r x h
theorem sorted_one {a b : List Str} (h : sortedS a = true) (k : sortedS b = true) (p : a.Perm b) : a = b :=
  List.Perm.eq_of_pairwise (le := fun a b => tl a ≤ tl b) (fun x y _ _ h1 h2 => ext_tl (List.le_antisymm h1 h2)) (sorted_pw h) (sorted_pw k) p
/-! ### counts -/
abbrev T3 := Nat × Nat × Nat
def tri (c : T3) : HO := .tup [.int (c.1 : Nat), .int (c.2.1 : Nat), .int (c.2.2 : Nat)]
def addT (a b : T3) : T3 := (a.1 + b.1, a.2.1 + b.2.1, a.2.2 + b.2.2)
def sumT3 (cs : List T3) : T3 := ((cs.map fun c => c.1).sum, (cs.map fun c => c.2.1).sum, (cs.map fun c => c.2.2).sum)
def getC (c : T3) : Nat → Nat
  | 0 => c.1
  | 1 => c.2.1
  | _ => c.2.2
def TriAt (H : Hp) (v : V) (c : T3) : Prop := ∃ t, v = .ref t ∧ H t = some (tri c)
theorem TriAt.same {H H' : Hp} (s : Same H H') {v : V} {c : T3} : TriAt H v c → TriAt H' v c := fun ⟨t, e, h⟩ => ⟨t, e, s _ _ h⟩
theorem tri_at (c : T3) (i : Nat) (h : i < 3) : ([V.int (c.1 : Nat), .int (c.2.1 : Nat), .int (c.2.2 : Nat)] : List V)[i]? = some (.int (getC c i : Nat)) := by
  match i, h with
  | 0, _ => rfl
  | 1, _ => rfl
  | 2, _ => rfl
theorem cast_sum : ∀ ns : List Nat, (ns.map fun n => ((n : Nat) : Int)).sum = ((ns.sum : Nat) : Int)
  | [] => rfl
  | n :: r => by
    rw [List.map_cons, List.sum_cons, List.sum_cons, cast_sum r]
    omega
/-- names with counts -/
def lookI (items : List (Str × T3)) (x : Str) : Option T3 := (items.find? fun p => decide (p.1 = x)).map (·.2)
def putI (items : List (Str × T3)) (x : Str) (c : T3) : List (Str × T3) := if (items.any fun p => decide (p.1 = x)) = true then items.map (fun p => if p.1 = x then (p.1, c) else p) else items ++ [(x, c)]
def CntAt (H : Hp) (kvs : List (Key × V)) (items : List (Str × T3)) : Prop := Paired (fun (q : Key × V) (p : Str × T3) => q.1 = Sum.inr p.1 ∧ TriAt H q.2 p.2) kvs items
theorem CntAt.mono {H H' : Hp} (s : ∀ t c, H t = some (tri c) → H' t = some (tri c)) {kvs : List (Key × V)} {items : List (Str × T3)} (h : CntAt H kvs items) : CntAt H' kvs items := paired_imp (fun _ _ k => ⟨k.1, let ⟨t, e, ht⟩ := k.2; ⟨t, e, s _ _ ht⟩⟩) h
theorem cnt_any {H : Hp} (x : Str) : ∀ {kvs : List (Key × V)} {items : List (Str × T3)}, CntAt H kvs items → (kvs.any fun kv => decide (kv.1 = Sum.inr x)) = (items.any fun p => decide (p.1 = x))
  | _, _, .nil => rfl
  | _, _, .cons (a := q) (b := p) a r => by
    rw [List.any_cons, List.any_cons, cnt_any x r, a.1]
    congr 1
    rw [Bool.eq_iff_iff, decide_eq_true_iff, decide_eq_true_iff]
    exact ⟨fun e => Sum.inr.inj e, fun e => congrArg Sum.inr e⟩
theorem cnt_look {H : Hp} (x : Str) : ∀ {kvs : List (Key × V)} {items : List (Str × T3)}, CntAt H kvs items → (valV kvs (Sum.inr x) = none ∧ lookI items x = none) ∨ ∃ v c, valV kvs (Sum.inr x) = some v ∧ lookI items x = some c ∧ TriAt H v c
  | _, _, .nil => .inl ⟨rfl, rfl⟩
  | _, _, .cons (a := q) (b := p) a r => by
    by_cases e : p.1 = x
    · refine .inr ⟨q.2, p.2, valV_pos (by rw [a.1, e]), ?_, a.2⟩
      unfold lookI
      rw [List.find?_cons, decide_eq_true e]
      rfl
    · have h1 : ¬ q.1 = Sum.inr x := fun z => e (Sum.inr.inj (a.1.symm.trans z))
      rw [valV_neg h1]
      have ih := cnt_look x r
      unfold lookI at ih ⊢
      rw [List.find?_cons, decide_eq_false e]
      exact ih
theorem cnt_put {H : Hp} {x : Str} {c : T3} {v : V} (hv : TriAt H v c) {kvs : List (Key × V)} {items : List (Str × T3)} (h : CntAt H kvs items) : CntAt H (putK kvs (Sum.inr x) v) (putI items x c) := by
  unfold putK putI
  rw [cnt_any x h]
  cases e : (items.any fun p => decide (p.1 = x)) with
  | true =>
    rw [if_pos rfl, if_pos rfl]
    clear e
    induction h with
    | nil => exact .nil
    | @cons q p _ _ a r ih =>
      refine .cons ?_ ih
      dsimp only
      by_cases e1 : p.1 = x
      · have hq : q.1 = Sum.inr x := by rw [a.1, e1]
        rw [if_pos hq, if_pos e1]
        exact ⟨a.1, hv⟩
      · rw [if_neg (fun z => e1 (Sum.inr.inj (a.1.symm.trans z))), if_neg e1]
        exact a
  | false =>
    rw [if_neg Bool.false_ne_true, if_neg Bool.false_ne_true]
    clear e
    induction h with
    | nil => exact .cons ⟨rfl, hv⟩ .nil
    | cons a r ih => exact .cons a ih
theorem cnt_len {H : Hp} {kvs : List (Key × V)} {items : List (Str × T3)} (h : CntAt H kvs items) : kvs.length = items.length := paired_len h
theorem cnt_keys {H : Hp} : ∀ {kvs : List (Key × V)} {items : List (Str × T3)}, CntAt H kvs items → kvs.map (·.1) = (items.map (·.1)).map Sum.inr
  | _, _, .nil => rfl
  | _, _, .cons a r => by rw [List.map_cons, List.map_cons, List.map_cons, cnt_keys r, a.1]
/-- a comprehension over a list with a test that may make things -/
theorem lc_listF {K : PySem.W.Frag} {a : Addr} {xs : List V} {j : Nat} {tt : TT} {vs : List Nat} {σ : L2.St} {H1 : Hp} {D : Addr} {Qd : Hp → Prop} (p : V → Bool) (hq : SqL K H1 a xs) (nD : H1 D = none) (hz : xs.length < sizeLine) (hw : ∀ x, wipe ((wipe σ vs).set j (some x)) vs = wipe σ vs)
    (hj : ∀ x : V, ((wipe σ vs).set j (some x))[j]? = some (some x))
    (each : ∀ (i : Nat) (x : V) (H2 : Hp) (Qb : Bool → Hp → Prop), xs[i]? = some x → Same H1 H2 → (∀ H3, Same H2 H3 → Qb (p x) H3) → tt ((wipe σ vs).set j (some x)) H2 Qb)
    (fin : ∀ H' : Hp, Same H1 H' → H' D = some (.lst (xs.filter p)) → Qd H') :
    ∃ W : Nat → Nat → Hp → Prop, (∃ m, W 0 m (upd H1 D (.lst []))) ∧ ∀ i m H, W i m H →
      ((Itl K a).stop i H ∧ Qd H) ∨ ((Itl K a).go i H ∧ ∃ Nx : Hp → Prop, (∀ H', Nx H' → ∃ m', m' < m ∧ W (i + 1) m' H') ∧ ∀ x H', (Itl K a).yld i H x H' → gName j x (wipe σ vs) H' fun σ2 H2 => wipe σ2 vs = wipe σ vs ∧ tt σ2 H2 fun b H3 =>
        if b = true then tVar j σ2 H3 fun y H4 => ∃ acc, H4 D = some (.lst acc) ∧ acc.length < sizeLine ∧ Nx (upd H4 D (.lst (acc ++ [y]))) else Nx H3) := by
  refine lc_list (K := K) (a := a) (xs := xs) (fun i H => Same H1 H ∧ H D = some (.lst ((xs.take i).filter p))) ⟨same_new nD, upd_same⟩ (fun i H _ h => h.1.seq hq) (fun i x H hx h => ?_) (fun H h => ?_)
  · refine ⟨hw _, each i x H _ hx h.1 fun H3 s3 => ?_⟩
    have lt : (xs.take (i + 1)).filter p = (xs.take i).filter p ++ (if p x then [x] else []) := take_filter p hx
    cases hp : p x with
    | true =>
      rw [if_pos rfl]
      refine ⟨_, hj _, _, s3 _ _ h.2, Nat.lt_of_le_of_lt (Nat.le_trans (List.length_filter_le _ _) (List.length_take_le' _ _)) hz, fun b o e => ?_, ?_⟩
      · rw [upd_ne (ne_of_none e nD)]
        exact s3 _ _ (h.1 _ _ e)
      · rw [upd_same, lt, hp]
        rfl
    | false =>
      rw [if_neg Bool.false_ne_true]
      refine ⟨h.1.trans s3, ?_⟩
      rw [s3 _ _ h.2, lt, hp]
      exact congrArg (fun l => some (HO.lst l)) (List.append_nil _).symm
  · rw [List.take_length] at h
    exact fin H h.1 h.2
def cntW (ws : List Str) : T3 := ((ws.filter failF).length, ws.length, ws.countP (· == ("skipped" : Str)))
section
variable {P : Program} {w : World} {K : PySem.W.Frag} {mg : Str → Option Value} {base : Heap}
def sp_counts_of : Sp := fun vs H Q _ => ∃ (p : Addr) (ws : List Str), vs = [.ref p] ∧ H p = some (.lst (ws.map V.str)) ∧ ws.length ≤ 1000 ∧ ∀ (H' : Hp) (q : Addr), Same H H' → H q = none → H' q = some (tri (cntW ws)) → Q (.ref q) H'
theorem ok_counts_of {f : Addr} {fd : FuncData} {dvs : List V} (F : Fn K "counts_of" s_counts_of dvs f fd) (O_has_failed : Own P w K mg base "has_failed" 1 ["word"] [] (sp_has_failed)) (m_len : mg "len" = none) {t_SKIPPED : Tok} (c_SKIPPED : mg "SKIPPED" = some (.str "skipped" t_SKIPPED)) : FnOk P w K mg base CX0 2 f fd ["words"] (sp_counts_of) := by
  refine Fn.okN F sc_counts_of (fun vs H Q E h => ?_) (fun cdv A outer s H vs Q E hr h => ?_)
  · obtain ⟨_, _, rfl, _⟩ := h
    rfl
  · obtain ⟨p, ws, rfl, hp, hl, k⟩ := h
    refine ⟨_, (pss_one (ps_ret (pe_tup (pa_cons (pe_callB call_len_seq (by rfl) m_len PySem.boot_len (pa_cons (pe_lc (own := [("word", 1)]) (g := gName 1) (by rfl) sc_counts_of.nd (pi_list (pv 0)) (blkOk_by (own := [("word", 1)]) (N := ["words", "word"]) (sc := defScope s_counts_of) (by decide +kernel)) (fun _ _ _ _ _ => (pg_name (i := 1) sc_counts_of.nd rfl (.inl rfl))) (fun _ _ _ _ _ => (pts_one (pt_val (pe_own O_has_failed (hr.mono (by decide)) (by rfl) (pa_cons (pv 1) pa_nil))))) (fun _ _ _ _ _ => (pv 1))) pa_nil)) (pa_cons (pe_callB call_len_seq (by rfl) m_len PySem.boot_len (pa_cons (pv 0) pa_nil)) (pa_cons (pe_bm PySem.F.plainAttrs_list PySem.F.slot_list_count PySem.F.type_list_count mt_lcountS (pv 0) (pa_cons (pe_glob (v := .str "skipped") rfl c_SKIPPED ⟨_, rfl⟩) pa_nil)) pa_nil)))))), ?_⟩
    refine ⟨.ref p, rfl, p, rfl, ⟨_, SqL.of hp⟩, fun D nD => ?_⟩
    refine lc_listF (K := K) (a := p) (xs := ws.map V.str) (fun v => match v with | .str x => failF x | _ => false) (SqL.of hp) nD (by rw [List.length_map]; exact small_line hl) (fun _ => rfl) (fun _ => rfl) (fun i x H2 Qb hx s2 kk => ?_) fun H2 s2 eD => ?_
    · obtain ⟨z, rfl, _⟩ := str_at hx
      exact ⟨.str z, rfl, z, rfl, fun H3 s3 => ⟨_, rfl, kk H3 s3⟩⟩
    · have e1 : (ws.map V.str).filter (fun v => match v with | .str x => failF x | _ => false) = (ws.filter failF).map V.str := by
        rw [List.filter_map]
        rfl
      rw [e1] at eD
      refine ⟨D, _, rfl, .inl (SqL.of eD), .ref p, rfl, p, _, rfl, .inl (SqL.of (s2 _ _ hp)), .ref p, rfl, .inl ⟨rfl, _, SqL.of (s2 _ _ hp)⟩, p, ws, "skipped", rfl, rfl, SqL.of (s2 _ _ hp), by show 3 ≤ sizeLine; decide, fun q nq => ?_⟩
      refine k _ q (s2.trans (same_new nq)) (s2.free nq) ?_
      rw [upd_same, List.length_map, List.length_map]
      rfl
def sp_summed : Sp := fun vs H Q _ => ∃ (p : Addr) (xs : List V) (cs : List T3), vs = [.ref p] ∧ H p = some (.lst xs) ∧ Paired (TriAt H) xs cs ∧ xs.length ≤ 1000 ∧ ∀ (H' : Hp) (q : Addr), Same H H' → H q = none → H' q = some (tri (sumT3 cs)) → Q (.ref q) H'
theorem ok_summed {f : Addr} {fd : FuncData} {dvs : List V} (F : Fn K "summed" s_summed dvs f fd) (m_sum : mg "sum" = none) (m_tuple : mg "tuple" = none) {t_FAILED : Tok} (c_FAILED : mg "FAILED" = some (.int 0 t_FAILED)) {t_PASSED_OVER : Tok} (c_PASSED_OVER : mg "PASSED_OVER" = some (.int 2 t_PASSED_OVER)) {t_TRIED : Tok} (c_TRIED : mg "TRIED" = some (.int 1 t_TRIED)) : FnOk P w K mg base CX0 1 f fd ["many"] (sp_summed) := by
  refine Fn.okN F sc_summed (fun vs H Q E h => ?_) (fun cdv A outer s H vs Q E hr h => ?_)
  · obtain ⟨_, _, _, rfl, _⟩ := h
    rfl
  · obtain ⟨p, xs, cs, rfl, hp, hc, hl, k⟩ := h
    refine ⟨_, (pss_one (ps_ret (pe_callTy call_tuple_of (by rfl) m_tuple (by decide +kernel) (pa_cons (pe_lc (own := [("place", 1)]) (g := gName 1) (tt := tYes) (by rfl) sc_summed.nd (pi_tup (pe_tup (pa_cons (pe_glob (v := .int 0) rfl c_FAILED ⟨_, rfl⟩) (pa_cons (pe_glob (v := .int 1) rfl c_TRIED ⟨_, rfl⟩) (pa_cons (pe_glob (v := .int 2) rfl c_PASSED_OVER ⟨_, rfl⟩) pa_nil))))) (blkOk_by (own := [("place", 1)]) (N := ["many", "place", "counts"]) (sc := defScope s_summed) (by decide +kernel)) (fun _ _ _ _ _ => (pg_name (i := 1) sc_summed.nd rfl (.inr rfl))) (fun _ _ _ _ _ => pts_nil) (fun _ _ _ _ _ => (pe_callB (cr_sumK (K' := K) rfl rfl) (by rfl) m_sum (by decide +kernel) (pa_cons (pe_lc (own := [("counts", 2)]) (g := gName 2) (tt := tYes) (by rfl) sc_summed.nd (pi_listK (K' := K) rfl (pv 0)) (blkOk_by (by kernel_rfl)) (fun _ _ _ _ _ => (pg_name (i := 2) sc_summed.nd rfl (.inl rfl))) (fun _ _ _ _ _ => pts_nil) (fun _ _ _ _ _ => (pe_ix (ix_tupK (K' := K) rfl) (pv 2) (pv 1) (fun _ _ => rfl)))) pa_nil)))) pa_nil)))), ?_⟩
    refine ⟨by show 3 ≤ sizeLine; decide, fun T nT => ?_⟩
    have sT := same_new (o := .tup [.int 0, .int 1, .int 2]) nT
    have tT : (upd H T (.tup [.int 0, .int 1, .int 2])) T = some (.tup [.int 0, .int 1, .int 2]) := upd_same
    generalize upd H T (.tup [.int 0, .int 1, .int 2]) = H1 at sT tT ⊢
    refine ⟨T, rfl, ⟨_, SqT.of tT⟩, fun D nD => ?_⟩
    have lc := paired_len hc
    refine lc_relT (K := K) (a := T) (xs := [.int 0, .int 1, .int 2]) (fun i H y => y = .int (((cs.map fun c => getC c i).sum : Nat) : Int)) (fun s h => h) (fun H2 s => SqT.of (s _ _ tT)) nD (by decide +kernel) (fun _ => rfl) (fun i x H2 Qy hx s2 kk => ?_) fun H2 ys s2 eD hly hR => ?_
    · have hi : i < 3 := (List.getElem?_eq_some_iff.mp hx).1
      have ex : x = .int (i : Nat) := by
        match i, hi, hx with
        | 0, _, h => cases h; rfl
        | 1, _, h => cases h; rfl
        | 2, _, h => cases h; rfl
      subst ex
      refine ⟨.ref p, rfl, p, rfl, ⟨xs, SqL.of (s2 _ _ (sT _ _ hp))⟩, fun D2 nD2 => ?_⟩
      refine lc_rel (K := K) (a := p) (xs := xs) (fun j H y => ∀ c, cs[j]? = some c → y = .int (getC c i : Nat)) (fun s h => h) (SqL.of (s2 _ _ (sT _ _ hp))) nD2 (small_line hl) (fun _ => rfl) (fun j v H3 Qz hv s3 kz => ?_) fun H3 zs s3 eD3 hlz hRz => ?_
      · have hj : j < cs.length := by rw [← lc]; exact (List.getElem?_eq_some_iff.mp hv).1
        obtain ⟨t, rfl, ht⟩ := paired_at hc hv (List.getElem?_eq_getElem hj)
        refine ⟨.ref t, rfl, .int (i : Nat), rfl, t, _, (i : Nat), .int (getC cs[j] i : Nat), rfl, rfl, SqT.of (s3 _ _ (s2 _ _ (sT _ _ ht))), atI_nat (tri_at cs[j] i hi), kz _ H3 (fun _ _ e => e) fun c hc2 => ?_⟩
        rw [List.getElem?_eq_getElem hj] at hc2
        cases hc2
        rfl
      · have ez : zs = ((cs.map fun c => getC c i).map fun n => ((n : Nat) : Int)).map V.int := by
          rw [List.map_map, List.map_map]
          exact map_of (f := fun c => V.int (getC c i : Nat)) (by rw [hlz, lc]) fun j y hy c hc2 => hRz j y hy c hc2
        refine ⟨D2, _, rfl, SqL.of (ez ▸ eD3), ?_⟩
        rw [cast_sum]
        exact kk _ H3 s3 rfl
    · have ey : ys = [.int (((cs.map fun c => c.1).sum : Nat) : Int), .int (((cs.map fun c => c.2.1).sum : Nat) : Int), .int (((cs.map fun c => c.2.2).sum : Nat) : Int)] := by
        match ys, hly, hR with
        | [a, b, c], _, hR => rw [hR 0 a rfl, hR 1 b rfl, hR 2 c rfl]; rfl
      refine ⟨D, ys, rfl, .inl ⟨SqL.of eD, fun q nq => ?_⟩⟩
      refine k _ q ((sT.trans s2).trans (same_new nq)) ((sT.trans s2).free nq) ?_
      rw [upd_same, ey]
      rfl
end

/-! ### tests and runners -/
def rnFs (p f c : Addr) : List (Str × V) := [("_play", .ref p), ("_flags", .ref f), ("_counts", .ref c)]
/-- all that stood before stands, but one place -/
theorem out_refl {x : Addr} {H : Hp} : Out x H H := fun _ _ e _ => e
theorem out_same {x : Addr} {H H' : Hp} (s : Same H H') : Out x H H' := fun b o e _ => s b o e
theorem Out.trans {x : Addr} {H H1 H2 : Hp} (a : Out x H H1) (b : Out x H1 H2) : Out x H H2 := fun c o e n => b c o (a c o e n) n
section
variable {P : Program} {w : World} {K : PySem.W.Frag} {mg : Str → Option Value} {base : Heap}
def sp_held_names : Sp := fun vs H Q _ => vs = [.non] ∧ ∀ p, H p = none → Q (.ref p) (upd H p (.dK []))
theorem ok_held_names {f : Addr} {fd : FuncData} {dvs : List V} (F : Fn K "held_names" s_held_names dvs f fd) : FnOk P w K mg base CX0 1 f fd ["names"] (sp_held_names) := by
  refine Fn.okN F sc_held_names (fun vs H Q E h => ?_) (fun cdv A outer s H vs Q E hr h => ?_)
  · obtain ⟨rfl, _⟩ := h
    rfl
  · obtain ⟨rfl, k⟩ := h
    refine ⟨_, (pss_cons (ps_if (pt_cmpR op_isN (pv 0) pe_non (nomark _))
          (pss_one (ps_ret pe_dnewK))
          pss_nil)
      (pss_cons ps_never
      (pss_one ps_never))), ?_⟩
    exact ⟨.non, rfl, rfl, true, rfl, iteT fun p np => k p np⟩
def sp_Test_init (C : Addr) : Sp := fun vs H Q _ => ∃ (x dx p : Addr) (exs : List V) (name : Str), vs = [.ref x, .ref p, .non, .str name, .non, .non] ∧ H x = some (.ins C dx []) ∧ H p = some (.lst exs) ∧
  ∀ (H' : Hp) (nm ex : Addr), Out x H H' → H' x = some (.ins C dx (tsFs (.ref nm) (.ref ex) name .non .non)) → H' ex = some (.lst exs) → H ex = none → Q .non H'
theorem ok_Test_init {f : Addr} {fd : FuncData} {dvs : List V} {kws : List (Str × V)} (F : FunD K "__init__" "Test.__init__" (defArgs s_Test_init) (defBody s_Test_init) (defScope s_Test_init) dvs kws f fd) {C_Test : Addr} (T_Test : Txt_Test K mg C_Test) (O_held_names : Own P w K mg base "held_names" 1 ["names"] [] (sp_held_names)) (m_list : mg "list" = none) : FnOk P w K mg base CX0 2 f fd ["self", "examples", "names", "name", "file", "line"] (sp_Test_init C_Test) := by
  refine FunD_okN F sc_Test_init (fun vs H Q E h => ?_) (fun cdv A outer s H vs Q E hr h => ?_)
  · obtain ⟨_, _, _, _, _, rfl, _⟩ := h
    rfl
  · obtain ⟨x, dx, p, exs, name, rfl, hx, hp, k⟩ := h
    refine ⟨_, (pss_cons (ps_fld (pv 0) (pe_own O_held_names (hr.mono (by decide)) (by rfl) (pa_cons (pv 2) pa_nil)) rfl)
      (pss_cons (ps_fld (pv 0) (pe_callTy call_list_of (by rfl) m_list (by decide +kernel) (pa_cons (pv 1) pa_nil)) rfl)
      (pss_cons (ps_fld (pv 0) (pv 3) rfl)
      (pss_cons (ps_fld (pv 0) (pe_ifExp (pt_tr (K' := K) (pv 4)) (pv 4) pe_non) rfl)
      (pss_one (ps_fld (pv 0) (pv 5) rfl)))))), ?_⟩
    have px : p ≠ x := fun z => by
      rw [z, hx] at hp
      cases hp
    refine ⟨.non, rfl, rfl, fun nm nn => ?_⟩
    have o1 : Out x H (upd H nm (.dK [])) := out_same (same_new nn)
    have x1 : (upd H nm (.dK [])) x = some (.ins C_Test dx []) := same_new nn _ _ hx
    generalize upd H nm (.dK []) = H1 at o1 x1 ⊢
    refine ⟨.ref x, rfl, x, C_Test, dx, [], rfl, x1, T_Test.cl, T_Test.n__names, by decide, ?_⟩
    have o2 := o1.put (o' := .ins C_Test dx (putF "_names" (V.ref nm) []))
    have x2 : (upd H1 x (.ins C_Test dx (putF "_names" (V.ref nm) []))) x = some (.ins C_Test dx [("_names", .ref nm)]) := upd_same
    generalize upd H1 x (.ins C_Test dx (putF "_names" (V.ref nm) [])) = H2 at o2 x2 ⊢
    refine ⟨.ref p, rfl, p, exs, rfl, .inl (SqL.of (o2 _ _ hp px)), fun ex ne => ?_⟩
    have nex : H ex = none := by
      cases e : H ex with
      | none => rfl
      | some o =>
        by_cases h : ex = x
        · rw [h, x2] at ne
          cases ne
        · rw [o2 _ _ e h] at ne
          cases ne
    have ex' : ex ≠ x := fun z => by
      rw [z, x2] at ne
      cases ne
    have o3 := o2.same (same_new (o := .lst exs) ne)
    have x3 : (upd H2 ex (.lst exs)) x = some (.ins C_Test dx [("_names", .ref nm)]) := same_new ne _ _ x2
    have l3 : (upd H2 ex (.lst exs)) ex = some (.lst exs) := upd_same
    generalize upd H2 ex (.lst exs) = H3 at o3 x3 l3 ⊢
    refine ⟨.ref x, rfl, x, C_Test, dx, _, rfl, x3, T_Test.cl, T_Test.n__examples, (show 1 < 1000 by decide), ?_⟩
    refine ⟨.str name, rfl, .ref x, rfl, x, C_Test, dx, _, rfl, upd_same, T_Test.cl, T_Test.n_name, (show 2 < 1000 by decide), ?_⟩
    refine ⟨.non, rfl, false, rfl, iteF ⟨.ref x, rfl, x, C_Test, dx, _, rfl, upd_same, T_Test.cl, T_Test.n_file, (show 3 < 1000 by decide), ?_⟩⟩
    refine ⟨.non, rfl, .ref x, rfl, x, C_Test, dx, _, rfl, upd_same, T_Test.cl, T_Test.n_line, (show 4 < 1000 by decide), ?_⟩
    refine k _ nm ex (((o3.put).put).put).put upd_same ?_ nex
    rw [upd_ne ex', upd_ne ex', upd_ne ex', upd_ne ex']
    exact l3
def sp_Test_examples (C : Addr) : Sp := fun vs H Q _ => ∃ (t dx ex : Addr) (nm : V) (exs : List V) (name : Str) (file line : V), vs = [.ref t] ∧ H t = some (.ins C dx (tsFs nm (.ref ex) name file line)) ∧ H ex = some (.lst exs) ∧ ∀ p, H p = none → Q (.ref p) (upd H p (.lst exs))
theorem ok_Test_examples {f : Addr} {fd : FuncData} {dvs : List V} {kws : List (Str × V)} (F : FunD K "examples" "Test.examples" (defArgs s_Test_examples) (defBody s_Test_examples) (defScope s_Test_examples) dvs kws f fd) {C_Test : Addr} (T_Test : Txt_Test K mg C_Test) (m_list : mg "list" = none) : FnOk P w K mg base CX0 1 f fd ["self"] (sp_Test_examples C_Test) := by
  refine FunD_okN F sc_Test_examples (fun vs H Q E h => ?_) (fun cdv A outer s H vs Q E hr h => ?_)
  · obtain ⟨_, _, _, _, _, _, _, _, rfl, _⟩ := h
    rfl
  · obtain ⟨t, dx, ex, nm, exs, name, file, line, rfl, ht, he, k⟩ := h
    refine ⟨_, (pss_one (ps_ret (pe_callTy call_list_of (by rfl) m_list (by decide +kernel) (pa_cons (pe_fldK (K' := K) rfl (pv 0) rfl) pa_nil)))), ?_⟩
    exact ⟨.ref t, rfl, t, C_Test, dx, _, _, rfl, ht, T_Test.cl, T_Test.n__examples, rfl, ex, exs, rfl, .inl (SqL.of he), k⟩
def sp_Test_tried (K : PySem.W.Frag) (C D : Addr) : Sp := fun vs H Q _ => ∃ (t dx : Addr) (ex : V) (name : Str) (file line : V) (v : V) (e : ExD) (p : Addr) (nm : V) (kvs : List (Key × V)) (P : List (Str × List Str)) (acts : List Str) (i : Nat) (fl : Addr) (xs : List Str), vs = [.ref t, v, .ref p, .ref fl] ∧ H t = some (.ins D dx (tsFs nm ex name file line)) ∧ ExAt C H v e ∧ e.wt.length ≤ 1000000 ∧ H p = some (.dK kvs) ∧ DctAt 3 H kvs (PlayD actT P) ∧ (P.map (·.1)).Nodup ∧ P[i]? = some (e.br, acts) ∧ (acts.map (·.length)).sum ≤ 80000 ∧ SqA K H fl (xs.map V.str) ∧ has "NORMALIZE_WHITESPACE" xs = false ∧
  ∀ (H' : Hp) (q : Addr), Same H H' → H q = none → H' q = some (.tup [.str (outW acts e xs).1, .str (outW acts e xs).2, .non]) → Q (.ref q) H'
theorem ok_Test_tried {f : Addr} {fd : FuncData} {dvs : List V} {kws : List (Str × V)} (F : FunD K "tried" "Test.tried" (defArgs s_Test_tried) (defBody s_Test_tried) (defScope s_Test_tried) dvs kws f fd) {C_Example : Addr} (T_Example : Txt_Example K mg C_Example) {C_Test : Addr} (T_Test : Txt_Test K mg C_Test) (O_outcome_of : Own P w K mg base "outcome_of" 6 ["example", "play", "names", "flags"] [] (sp_outcome_of K C_Example)) : FnOk P w K mg base CX0 7 f fd ["self", "example", "play", "flags"] (sp_Test_tried K C_Example C_Test) := by
  refine FunD_okN F sc_Test_tried (fun vs H Q E h => ?_) (fun cdv A outer s H vs Q E hr h => ?_)
  · obtain ⟨_, _, _, _, _, _, _, _, _, _, _, _, _, _, _, _, rfl, _⟩ := h
    rfl
  · obtain ⟨t, dx, ex, name, file, line, v, e, p, nm, kvs, P, acts, i, fl, xs, rfl, ht, he, lw, hp, hP, nd, hi, hz, hf, hn, k⟩ := h
    refine ⟨_, (pss_one (ps_ret (pe_own O_outcome_of (hr.mono (by decide)) (by rfl) (pa_cons (pv 1) (pa_cons (pv 2) (pa_cons (pe_fldK (K' := K) rfl (pv 0) rfl) (pa_cons (pv 3) pa_nil))))))), ?_⟩
    exact ⟨v, rfl, .ref p, rfl, .ref t, rfl, t, C_Test, dx, _, _, rfl, ht, T_Test.cl, T_Test.n__names, rfl, .ref fl, rfl, v, e, p, nm, kvs, P, acts, i, fl, xs, rfl, he, lw, hp, hP, nd, hi, hz, hf, hn, k⟩
def sp_Test_forget (C : Addr) : Sp := fun vs H Q _ => ∃ (t dx : Addr) (nm ex : V) (name : Str) (file line : V), vs = [.ref t] ∧ H t = some (.ins C dx (tsFs nm ex name file line)) ∧ ∀ (H' : Hp) (nm' : V), Out t H H' → H' t = some (.ins C dx (tsFs nm' ex name file line)) → Q .non H'
theorem ok_Test_forget {f : Addr} {fd : FuncData} {dvs : List V} {kws : List (Str × V)} (F : FunD K "forget" "Test.forget" (defArgs s_Test_forget) (defBody s_Test_forget) (defScope s_Test_forget) dvs kws f fd) {C_Test : Addr} (T_Test : Txt_Test K mg C_Test) : FnOk P w K mg base CX0 1 f fd ["self"] (sp_Test_forget C_Test) := by
  refine FunD_okN F sc_Test_forget (fun vs H Q E h => ?_) (fun cdv A outer s H vs Q E hr h => ?_)
  · obtain ⟨_, _, _, _, _, _, _, rfl, _⟩ := h
    rfl
  · obtain ⟨t, dx, nm, ex, name, file, line, rfl, ht, k⟩ := h
    refine ⟨_, (pss_one (ps_fld (pv 0) pe_dnewK rfl)), ?_⟩
    refine fun d nd => ⟨.ref t, rfl, t, C_Test, dx, _, rfl, same_new nd _ _ ht, T_Test.cl, T_Test.n__names, (show 5 < 1000 by decide), ?_⟩
    exact k _ (.ref d) ((out_same (same_new nd)).put) upd_same
/-- a runner whose counts are items -/
structure RnAt (C : Addr) (H : Hp) (r dx p f c : Addr) (ds kvs : List (Key × V)) (P : List (Str × List Str)) (xs : List Str) (items : List (Str × T3)) : Prop where
  ins : H r = some (.ins C dx (rnFs p f c))
  play : H p = some (.dK ds)
  acts : DctAt 3 H ds (PlayD actT P)
  flags : H f = some (.lst (xs.map V.str))
  cnts : H c = some (.dK kvs)
  cnt : CntAt H kvs items
  ne : c ≠ p
theorem tri_ne {c : T3} {kvs : List (Key × V)} : tri c ≠ HO.dK kvs := nofun
theorem RnAt.same {C : Addr} {H H' : Hp} (s : Same H H') {r dx p f c : Addr} {ds kvs : List (Key × V)} {P : List (Str × List Str)} {xs : List Str} {items : List (Str × T3)} (h : RnAt C H r dx p f c ds kvs P xs items) : RnAt C H' r dx p f c ds kvs P xs items :=
  ⟨s _ _ h.ins, s _ _ h.play, h.acts.same s, s _ _ h.flags, s _ _ h.cnts, h.cnt.mono fun t c e => s _ _ e, h.ne⟩
/-- an instance is changed -/
theorem RnAt.outI {C : Addr} {H H' : Hp} {x D dx2 : Addr} {fs : List (Str × V)} (s : Out x H H') (hx : H x = some (.ins D dx2 fs)) {r dx p f c : Addr} (rx : r ≠ x) {ds kvs : List (Key × V)} {P : List (Str × List Str)} {xs : List Str} {items : List (Str × T3)} (h : RnAt C H r dx p f c ds kvs P xs items) : RnAt C H' r dx p f c ds kvs P xs items := by
  have nx : ∀ {b : Addr} {o : HO}, H b = some o → (∀ D dx fs, o ≠ .ins D dx fs) → b ≠ x := fun {b o} e n z => by
    rw [z, hx] at e
    cases e
    exact n _ _ _ rfl
  refine ⟨s _ _ h.ins rx, s _ _ h.play (nx h.play nofun), ⟨h.acts.1, fun i q p a b => (h.acts.2 i q p a b).seqs fun b o e ho => s _ _ e (nx e ?_)⟩, s _ _ h.flags (nx h.flags nofun), s _ _ h.cnts (nx h.cnts nofun), h.cnt.mono fun t c e => s _ _ e (nx e nofun), h.ne⟩
  rcases ho with ⟨_, rfl⟩ | ⟨_, rfl⟩ <;> exact nofun
def sp_Runner_init (K : PySem.W.Frag) (C : Addr) : Sp := fun vs H Q _ => ∃ (x dx p f : Addr) (kvs : List (Key × V)) (P : List (Str × List Str)) (xs : List Str), vs = [.ref x, .ref p, .ref f] ∧ H x = some (.ins C dx []) ∧ H p = some (.dK kvs) ∧ DctAt 3 H kvs (PlayD actL P) ∧ (P.map (·.1)).Nodup ∧ P.length ≤ 1000 ∧ (∀ H2, (∀ b o, H b = some o → b ≠ x → H2 b = some o) → SqA K H2 f (xs.map V.str)) ∧ (∀ z ∈ xs, has z v_FLAGS = true) ∧
  ∀ (H' : Hp) (q g c : Addr) (ds : List (Key × V)), Out x H H' → RnAt C H' x dx q g c ds [] P xs [] → H q = none → H g = none → H c = none → Q .non H'
theorem ok_Runner_init {f : Addr} {fd : FuncData} {dvs : List V} {kws : List (Str × V)} (F : FunD K "__init__" "Runner.__init__" (defArgs s_Runner_init) (defBody s_Runner_init) (defScope s_Runner_init) dvs kws f fd) {C_Runner : Addr} (T_Runner : Txt_Runner K mg C_Runner) (O_require_play : Own P w K mg base "require_play" 6 ["thing"] [] (sp_require_play)) (O_require_flags0 : Own P w K mg base "require_flags" 2 ["flags"] [] (sp_require_flags0 K)) (O_held : Own P w K mg base "held" 4 ["thing"] [] (sp_held)) (m_list : mg "list" = none) : FnOk P w K mg base CX0 7 f fd ["self", "play", "flags"] (sp_Runner_init K C_Runner) := by
  refine FunD_okN F sc_Runner_init (fun vs H Q E h => ?_) (fun cdv A outer s H vs Q E hr h => ?_)
  · obtain ⟨_, _, _, _, _, _, _, rfl, _⟩ := h
    rfl
  · obtain ⟨x, dx, p, f, kvs, P, xs, rfl, hx, hp, hP, nd, hl, hf, hfl, k⟩ := h
    refine ⟨_, (pss_cons (ps_expr (pe_own O_require_play (hr.mono (by decide)) (by rfl) (pa_cons (pv 1) pa_nil)))
      (pss_cons (ps_expr (pe_own O_require_flags0 (hr.mono (by decide)) (by rfl) (pa_cons (pv 2) pa_nil)))
      (pss_cons (ps_fld (pv 0) (pe_own O_held (hr.mono (by decide)) (by rfl) (pa_cons (pv 1) pa_nil)) rfl)
      (pss_cons (ps_fld (pv 0) (pe_callTy call_list_of (by rfl) m_list (by decide +kernel) (pa_cons (pv 2) pa_nil)) rfl)
      (pss_one (ps_fld (pv 0) pe_dnewK rfl)))))), ?_⟩
    have px : p ≠ x := fun z => by
      rw [z, hx] at hp
      cases hp
    refine ⟨.ref p, rfl, p, kvs, P, rfl, hp, hP, nd, hl, fun H1 s1 => ?_⟩
    refine ⟨.ref f, rfl, f, xs, rfl, hf H1 (fun b o e _ => s1 _ _ e), hfl, ?_⟩
    have hP2 : ((PlayD actL P).map (·.1)).Nodup := by
      rw [playD_keys]
      exact nd
    refine ⟨.ref p, rfl, p, kvs, PlayD actL P, rfl, s1 _ _ hp, hP.same s1, hP2, by unfold PlayD; rw [List.length_map]; exact hl, fun H2 q ds s2 nq eq dq => ?_⟩
    have eP : (PlayD actL P).map (fun p => (p.1, tupd 3 p.2)) = PlayD actT P := by
      unfold PlayD
      rw [List.map_map]
      refine List.map_congr_left fun a _ => ?_
      show (a.1, tupd 3 (actL a.2)) = (a.1, actT a.2)
      rw [tupd_act]
    rw [eP] at dq
    have dq2 : DctAt 3 H2 ds (PlayD actT P) := dq.same fun b o e => difH_sub _ _ _ _ (cutH_sub _ _ _ _ e)
    have s12 := s1.trans s2
    have qx : q ≠ x := fun z => by
      rw [z, s1 _ _ hx] at nq
      cases nq
    have x2 := s12 _ _ hx
    refine ⟨.ref x, rfl, x, C_Runner, dx, [], rfl, x2, T_Runner.cl, T_Runner.n__play, by decide, ?_⟩
    have o3 := (out_same (x := x) s12).put (o' := .ins C_Runner dx (putF "_play" (V.ref q) []))
    have x3 : (upd H2 x (.ins C_Runner dx (putF "_play" (V.ref q) []))) x = some (.ins C_Runner dx [("_play", .ref q)]) := upd_same
    have q3 : (upd H2 x (.ins C_Runner dx (putF "_play" (V.ref q) []))) q = some (.dK ds) := by
      rw [upd_ne qx]
      exact eq
    have d3 : DctAt 3 (upd H2 x (.ins C_Runner dx (putF "_play" (V.ref q) []))) ds (PlayD actT P) := ⟨dq2.1, fun i a b c d => (dq2.2 i a b c d).seqs (SeqSame.put x2 fun xs => ⟨nofun, nofun⟩)⟩
    generalize upd H2 x (.ins C_Runner dx (putF "_play" (V.ref q) [])) = H3 at o3 x3 q3 d3 ⊢
    have fr : ∀ {H' : Hp} {b : Addr} {o : HO}, Out x H H' → H' x = some o → H' b = none → H b = none ∧ b ≠ x := fun {H' b o} oh xh nb => by
      have bx : b ≠ x := fun z => by
        rw [z, xh] at nb
        cases nb
      refine ⟨?_, bx⟩
      cases e : H b with
      | none => rfl
      | some o =>
        rw [oh _ _ e bx] at nb
        cases nb
    refine ⟨.ref f, rfl, f, xs.map V.str, rfl, hf H3 o3, fun g ng => ?_⟩
    have ng0 := fr o3 x3 ng
    have gx : g ≠ x := ng0.2
    have s34 := same_new (o := .lst (xs.map V.str)) ng
    have o4 := o3.same s34
    have x4 := s34 _ _ x3
    have q4 := s34 _ _ q3
    have d4 := d3.same s34
    have g4 : (upd H3 g (.lst (xs.map V.str))) g = some (.lst (xs.map V.str)) := upd_same
    generalize upd H3 g (.lst (xs.map V.str)) = H4 at s34 o4 x4 q4 d4 g4 ⊢
    refine ⟨.ref x, rfl, x, C_Runner, dx, _, rfl, x4, T_Runner.cl, T_Runner.n__flags, (show 1 < 1000 by decide), ?_⟩
    have o5 := o4.put (o' := .ins C_Runner dx (putF "_flags" (V.ref g) [("_play", .ref q)]))
    have x5 : (upd H4 x (.ins C_Runner dx (putF "_flags" (V.ref g) [("_play", .ref q)]))) x = some (.ins C_Runner dx [("_play", .ref q), ("_flags", .ref g)]) := upd_same
    have q5 : (upd H4 x (.ins C_Runner dx (putF "_flags" (V.ref g) [("_play", .ref q)]))) q = some (.dK ds) := by
      rw [upd_ne qx]
      exact q4
    have g5 : (upd H4 x (.ins C_Runner dx (putF "_flags" (V.ref g) [("_play", .ref q)]))) g = some (.lst (xs.map V.str)) := by
      rw [upd_ne gx]
      exact g4
    have d5 : DctAt 3 (upd H4 x (.ins C_Runner dx (putF "_flags" (V.ref g) [("_play", .ref q)]))) ds (PlayD actT P) := ⟨d4.1, fun i a b c d => (d4.2 i a b c d).seqs (SeqSame.put x4 fun xs => ⟨nofun, nofun⟩)⟩
    generalize upd H4 x (.ins C_Runner dx (putF "_flags" (V.ref g) [("_play", .ref q)])) = H5 at o5 x5 q5 g5 d5 ⊢
    refine fun c nc => ?_
    have nc0 := fr o5 x5 nc
    have cx : c ≠ x := nc0.2
    have s56 := same_new (o := .dK []) nc
    have x6 := s56 _ _ x5
    refine ⟨.ref x, rfl, x, C_Runner, dx, _, rfl, x6, T_Runner.cl, T_Runner.n__counts, (show 2 < 1000 by decide), ?_⟩
    have cq : c ≠ q := fun z => by
      rw [z, q5] at nc
      cases nc
    have d6 := d5.same s56
    refine k _ q g c ds ((o5.same s56).put) ⟨upd_same, ?_, ⟨d6.1, fun i a b c' d => (d6.2 i a b c' d).seqs (SeqSame.put x6 fun xs => ⟨nofun, nofun⟩)⟩, ?_, ?_, .nil, cq⟩ (s1.free nq) ng0.1 nc0.1
    · rw [upd_ne qx]
      exact s56 _ _ q5
    · rw [upd_ne gx]
      exact s56 _ _ g5
    · rw [upd_ne cx]
      exact upd_same
def plusI (items : List (Str × T3)) (x : Str) (c : T3) : List (Str × T3) := putI items x (sumT3 [(lookI items x).getD (0, 0, 0), c])
def sp_Runner_tally (C : Addr) : Sp := fun vs H Q _ => ∃ (r dx p f c : Addr) (ds kvs : List (Key × V)) (W : List (Str × List Str)) (xs : List Str) (items : List (Str × T3)) (x : Str) (t : Addr) (cs : T3), vs = [.ref r, .str x, .ref t] ∧ RnAt C H r dx p f c ds kvs W xs items ∧ H t = some (tri cs) ∧ items.length ≤ 1000 ∧
  ∀ (H' : Hp) (kvs' : List (Key × V)), Out c H H' → RnAt C H' r dx p f c ds kvs' W xs (plusI items x cs) → Q .non H'
theorem ok_Runner_tally {f : Addr} {fd : FuncData} {dvs : List V} {kws : List (Str × V)} (F : FunD K "tally" "Runner.tally" (defArgs s_Runner_tally) (defBody s_Runner_tally) (defScope s_Runner_tally) dvs kws f fd) {C_Runner : Addr} (T_Runner : Txt_Runner K mg C_Runner) (O_summed : Own P w K mg base "summed" 1 ["many"] [] (sp_summed)) : FnOk P w K mg base CX0 2 f fd ["self", "name", "counts"] (sp_Runner_tally C_Runner) := by
  refine FunD_okN F sc_Runner_tally (fun vs H Q E h => ?_) (fun cdv A outer s H vs Q E hr h => ?_)
  · obtain ⟨_, _, _, _, _, _, _, _, _, _, _, _, _, rfl, _⟩ := h
    rfl
  · obtain ⟨r, dx, p, f, c, ds, kvs, W, xs, items, x, t, cs, rfl, rn, ht, hl, k⟩ := h
    refine ⟨_, (pss_one (ps_dput (hu_of hr) (pe_fldK (K' := K) rfl (pv 0) rfl) (pv 1) (pe_own O_summed (hr.mono (by decide)) (by rfl) (pa_cons (pe_lst (pa_cons (pe_dget2 (hu_of hr) (pe_fldK (K' := K) rfl (pv 0) rfl) (pv 1) (pe_tup (pa_cons pe_int (pa_cons pe_int (pa_cons pe_int pa_nil)))) ⟨rfl, rfl, rfl, rfl⟩) (pa_cons (pv 2) pa_nil))) pa_nil)) rfl)), ?_⟩
    have cont : ∀ (v : V) (c0 : T3) (H1 : Hp), Same H H1 → TriAt H1 v c0 → (lookI items x).getD (0, 0, 0) = c0 → ∀ L, H1 L = none → sp_summed ([V.ref L] ++ []) (upd H1 L (.lst [v, .ref t])) (fun y H2 => tFld K (tVar 0) "_counts" [some (.ref r), some (.str x), some (.ref t)] H2 fun z H3 => tVar 1 [some (.ref r), some (.str x), some (.ref t)] H3 fun w H4 => ∃ a H5, z = .ref a ∧ DPut H4 a w y H5 ∧ Q .non H5) E0 := by
      intro v c0 H1 s1 hv ec L nL
      have sL := same_new (o := .lst [v, .ref t]) nL
      refine ⟨L, [v, .ref t], [c0, cs], rfl, upd_same, .cons (hv.same sL) (.cons ⟨t, rfl, sL _ _ (s1 _ _ ht)⟩ .nil), (show 2 ≤ 1000 by decide), fun H2 q s2 nq eq => ?_⟩
      have s3 := s1.trans (sL.trans s2)
      have rn2 := rn.same s3
      have hk : kvs.length < sizeLine := small_line (by rw [cnt_len rn.cnt]; exact hl)
      refine ⟨.ref r, rfl, r, C_Runner, dx, _, _, rfl, rn2.ins, T_Runner.cl, T_Runner.n__counts, rfl, .str x, rfl, c, _, rfl, DPut.k (k := Sum.inr x) rn2.cnts hk, ?_⟩
      have ncl : ∀ {b : Addr} {o : HO}, H2 b = some o → (∀ ks, o ≠ .dK ks) → b ≠ c := fun {b o} e n z => by
        rw [z, rn2.cnts] at e
        cases e
        exact n _ rfl
      refine k _ _ (fun b o e n => by rw [upd_ne n]; exact s3 _ _ e) ⟨?_, ?_, ?_, ?_, upd_same, ?_, rn2.ne⟩
      · rw [upd_ne (ncl rn2.ins nofun)]
        exact rn2.ins
      · rw [upd_ne rn2.ne.symm]
        exact rn2.play
      · exact ⟨rn2.acts.1, fun i a b c' d => (rn2.acts.2 i a b c' d).seqs (SeqSame.put rn2.cnts fun xs => ⟨nofun, nofun⟩)⟩
      · rw [upd_ne (ncl rn2.flags nofun)]
        exact rn2.flags
      · unfold plusI
        rw [ec]
        refine (cnt_put ⟨q, rfl, eq⟩ rn2.cnt).mono fun t c e => ?_
        rw [upd_ne (ncl e nofun)]
        exact e
    refine ⟨.ref r, rfl, r, C_Runner, dx, _, _, rfl, rn.ins, T_Runner.cl, T_Runner.n__counts, rfl, c, rfl, .inl ⟨kvs, .inl rn.cnts⟩, .str x, rfl, by show 3 ≤ sizeLine; decide, fun T nT => ?_⟩
    have sT := same_new (o := .tup [.int 0, .int 0, .int 0]) nT
    rcases cnt_look x rn.cnt with ⟨h1, h2⟩ | ⟨v, c0, h1, h2, h3⟩
    · refine ⟨none, by rw [← h1]; exact DGet.k (k := Sum.inr x) (sT _ _ rn.cnts), .ref t, rfl, by show 2 ≤ sizeLine; decide, fun L nL => ?_⟩
      exact cont (.ref T) (0, 0, 0) _ sT ⟨T, rfl, upd_same⟩ (by rw [h2]; rfl) L nL
    · refine ⟨some v, by rw [← h1]; exact DGet.k (k := Sum.inr x) (sT _ _ rn.cnts), .ref t, rfl, by show 2 ≤ sizeLine; decide, fun L nL => ?_⟩
      exact cont v c0 _ sT (h3.same sT) (by rw [h2]; rfl) L nL
end

/-! ### runs -/
/-- for over a list, what stands behind it said once -/
theorem for_listE {K : PySem.W.Frag} {a : Addr} {xs : List V} {g : TG} {tb : TS} {D : Ends} {σ : L2.St} {H : Hp} (Pv : Nat → L2.St → Hp → Prop) (E : L2.St → Hp → Prop) (fin : ∀ σ H, E σ H → D.nx σ H) (h0 : Pv 0 σ H) (hl : ∀ i σ H, i ≤ xs.length → Pv i σ H → SqL K H a xs)
    (hs : ∀ i x σ H, xs[i]? = some x → Pv i σ H → (∀ σ H, E σ H → D.nx σ H) → g x σ H fun σ2 H2 => tb { D with nx := Pv (i + 1), ct := Pv (i + 1), bk := D.nx } σ2 H2) (hd : ∀ σ H, Pv xs.length σ H → E σ H) :
    ∃ W : Nat → Nat → L2.St → Hp → Prop, (∃ m, W 0 m σ H) ∧ ∀ i m σ H, W i m σ H →
      ((Itl K a).stop i H ∧ D.nx σ H) ∨ ((Itl K a).go i H ∧ ∃ N : L2.St → Hp → Prop, (∀ σ' H', N σ' H' → ∃ m', m' < m ∧ W (i + 1) m' σ' H') ∧ ∀ x H', (Itl K a).yld i H x H' → g x σ H' fun σ2 H2 => tb { D with nx := N, ct := N, bk := D.nx } σ2 H2) :=
  for_list Pv h0 hl (fun i x σ H hx h => hs i x σ H hx h fin) fun σ H h => fin σ H (hd σ H h)
/-- all that stood before stands, but two places -/
def Out2 (x y : Addr) (H H' : Hp) : Prop := ∀ b o, H b = some o → b ≠ x → b ≠ y → H' b = some o
section
variable {P : Program} {w : World} {K : PySem.W.Frag} {mg : Str → Option Value} {base : Heap}
def sp_Runner_ended_run (D C : Addr) : Sp := fun vs H Q _ => ∃ (r dx p f c : Addr) (ds kvs : List (Key × V)) (W : List (Str × List Str)) (xs : List Str) (items : List (Str × T3)) (t dxt : Addr) (nm ex : V) (name : Str) (file line : V) (L : Addr) (ws : List Str) (b : Bool), vs = [.ref r, .ref t, .ref L, .bl b] ∧ RnAt C H r dx p f c ds kvs W xs items ∧ H t = some (.ins D dxt (tsFs nm ex name file line)) ∧ r ≠ t ∧ H L = some (.lst (ws.map V.str)) ∧ ws.length ≤ 1000 ∧ items.length ≤ 1000 ∧
  ∀ (H' : Hp) (kvs' : List (Key × V)) (q : Addr) (nm' : V), Out2 t c H H' → RnAt C H' r dx p f c ds kvs' W xs (plusI items name (cntW ws)) → H' t = some (.ins D dxt (tsFs nm' ex name file line)) → H q = none → H' q = some (tri (cntW ws)) → Q (.ref q) H'
theorem ok_Runner_ended_run {f : Addr} {fd : FuncData} {dvs : List V} {kws : List (Str × V)} (F : FunD K "ended_run" "Runner.ended_run" (defArgs s_Runner_ended_run) (defBody s_Runner_ended_run) (defScope s_Runner_ended_run) dvs kws f fd) {C_Test : Addr} (T_Test : Txt_Test K mg C_Test) {C_Runner : Addr} (T_Runner : Txt_Runner K mg C_Runner) (O_Test_forget : OwnM P w K mg base C_Test "forget" 1 ["self"] [] (sp_Test_forget C_Test)) (O_counts_of : Own P w K mg base "counts_of" 2 ["words"] [] (sp_counts_of)) (O_Runner_tally : OwnM P w K mg base C_Runner "tally" 2 ["self", "name", "counts"] [] (sp_Runner_tally C_Runner)) : FnOk P w K mg base CX0 3 f fd ["self", "test", "words", "clear"] (sp_Runner_ended_run C_Test C_Runner) := by
  refine FunD_okN F sc_Runner_ended_run (fun vs H Q E h => ?_) (fun cdv A outer s H vs Q E hr h => ?_)
  · obtain ⟨_, _, _, _, _, _, _, _, _, _, _, _, _, _, _, _, _, _, _, _, rfl, _⟩ := h
    rfl
  · obtain ⟨r, dx, p, f, c, ds, kvs, W, xs, items, t, dxt, nm, ex, name, file, line, L, ws, b, rfl, rn, ht, rt, hL, hw, hl, k⟩ := h
    refine ⟨_, (pss_cut (ps_if (pt_val (pv 3))
          (pss_one (ps_expr (pe_ownM0 O_Test_forget (hr.mono (by decide)) (pv 1))))
          pss_nil)
      (pss_cons (ps_set (i := 4) sc_Runner_ended_run.nd rfl (.inl rfl) (pe_own O_counts_of (hr.mono (by decide)) (by rfl) (pa_cons (pv 2) pa_nil)))
      (pss_cons (ps_expr (pe_ownM O_Runner_tally (hr.mono (by decide)) (pv 0) (pa_cons (pe_fldK (K' := K) rfl (pv 1) rfl) (pa_cons (pv 4) pa_nil))))
      (pss_one (ps_ret (pv 4)))))), ?_⟩
    refine ⟨fun σ H1 => Out t H H1 ∧ (∃ nm' : V, H1 t = some (.ins C_Test dxt (tsFs nm' ex name file line))) ∧ σ = [some (.ref r), some (.ref t), some (.ref L), some (.bl b), none], ?_, ?_⟩
    · refine ⟨.bl b, rfl, _, rfl, ?_⟩
      cases b with
      | true => exact iteT ⟨.ref t, rfl, t, dxt, _, rfl, ht, rfl, t, dxt, nm, ex, name, file, line, rfl, ht, fun H1 nm' o1 h1 => ⟨o1, ⟨nm', h1⟩, rfl⟩⟩
      | false => exact iteF ⟨out_refl, ⟨nm, ht⟩, rfl⟩
    · rintro σ H1 ⟨o1, ⟨nm', h1⟩, rfl⟩
      have rn1 := rn.outI o1 ht rt
      have Lt : L ≠ t := fun z => by
        rw [z, ht] at hL
        cases hL
      have hL1 := o1 _ _ hL Lt
      refine ⟨.ref L, rfl, L, ws, rfl, hL1, hw, fun H2 q s2 nq eq => ?_⟩
      have rn2 := rn1.same s2
      refine ⟨.ref r, rfl, r, dx, _, rfl, rn2.ins, rfl, .ref t, rfl, t, C_Test, dxt, _, _, rfl, s2 _ _ h1, T_Test.cl, T_Test.n_name, rfl, .ref q, rfl, ?_⟩
      refine ⟨r, dx, p, f, c, ds, kvs, W, xs, items, name, q, cntW ws, rfl, rn2, eq, hl, fun H3 kvs' o3 rn3 => ⟨.ref q, rfl, ?_⟩⟩
      have ncl : ∀ {b : Addr} {o : HO}, H2 b = some o → (∀ ks, o ≠ .dK ks) → b ≠ c := fun {b o} e n z => by
        rw [z, rn2.cnts] at e
        cases e
        exact n _ rfl
      have nq0 : H q = none := by
        cases e : H q with
        | none => rfl
        | some o =>
          by_cases h : q = t
          · rw [h, h1] at nq
            cases nq
          · rw [o1 _ _ e h] at nq
            cases nq
      exact k H3 kvs' q nm' (fun b o e n1 n2 => o3 _ _ (s2 _ _ (o1 _ _ e n1)) n2) rn3 (o3 _ _ (s2 _ _ h1) (ncl (s2 _ _ h1) nofun)) nq0 (o3 _ _ eq (ncl eq nofun))
/-- what is asked of an example that is run -/
structure RunOk (W : List (Str × List Str)) (xs : List Str) (e : ExD) (i : Nat) : Prop where
  act : W[i]? = some (e.br, lookS W e.br)
  sz : ((lookS W e.br).map (·.length)).sum ≤ 100
  want : e.wt.length ≤ 150
  src : e.src.length ≤ 1000
  line : e.n.natAbs < 1000000
  opts : BoolVals e.kv
  noW : has "NORMALIZE_WHITESPACE" (forceF xs e.kv) = false
def wordE (W : List (Str × List Str)) (xs : List Str) (e : ExD) : Str := (outW (lookS W e.br) e (forceF xs e.kv)).1
/-- the words of a run -/
def rnW (W : List (Str × List Str)) (xs : List Str) : Bool → List ExD → List Str
  | _, [] => []
  | fd, e :: r => wordE W xs e :: (if wordE W xs e = "skipped" then rnW W xs fd r else if (fd || failF (wordE W xs e)) && has "FAIL_FAST" (forceF xs e.kv) then [] else rnW W xs (fd || failF (wordE W xs e)) r)
theorem rnW_len (W : List (Str × List Str)) (xs : List Str) : ∀ (es : List ExD) (fd : Bool), (rnW W xs fd es).length ≤ es.length
  | [], _ => Nat.le_refl _
  | e :: r, fd => by
    unfold rnW
    rw [List.length_cons, List.length_cons]
    have h1 := rnW_len W xs r fd
    have h2 := rnW_len W xs r (fd || failF (wordE W xs e))
    split
    · omega
    · split
      · exact Nat.succ_le_succ (Nat.zero_le _)
      · omega
theorem word_no_error (acts : List Str) (e : ExD) (fl : List Str) : (outW acts e fl).1 ≠ "error" := by
  unfold outW wordW
  split
  · decide +kernel
  · dsimp only
    split <;> decide +kernel
theorem got_len (acts : List Str) (e : ExD) (fl : List Str) (h : (acts.map (·.length)).sum ≤ 100) : (outW acts e fl).2.length ≤ 150 := by
  unfold outW
  split
  · decide +kernel
  · have h1 := endS_len (concS acts)
    have h2 := join0_len acts
    show (endS (concS acts)).length ≤ 150
    omega
theorem rnW_step {W : List (Str × List Str)} {xs : List Str} {fd : Bool} {es : List ExD} {i : Nat} {e : ExD} (h : es[i]? = some e) : rnW W xs fd (es.drop i) = wordE W xs e :: (if wordE W xs e = "skipped" then rnW W xs fd (es.drop (i + 1)) else if (fd || failF (wordE W xs e)) && has "FAIL_FAST" (forceF xs e.kv) then [] else rnW W xs (fd || failF (wordE W xs e)) (es.drop (i + 1))) := by
  obtain ⟨hi, he⟩ := List.getElem?_eq_some_iff.mp h
  rw [List.drop_eq_getElem_cons hi, he]
  rfl
def sp_Runner_run (CE CT CR : Addr) : Sp := fun vs H Q _ => ∃ (r dx p f c : Addr) (ds kvs : List (Key × V)) (W : List (Str × List Str)) (xs : List Str) (items : List (Str × T3)) (t dxt ex : Addr) (nm : V) (name : Str) (line : V) (exs : List V) (es : List ExD) (b : Bool), vs = [.ref r, .ref t, .bl false, .bl b] ∧ RnAt CR H r dx p f c ds kvs W xs items ∧ (W.map (·.1)).Nodup ∧ H t = some (.ins CT dxt (tsFs nm (.ref ex) name .non line)) ∧ r ≠ t ∧ H ex = some (.lst exs) ∧ Paired (ExAt CE H) exs es ∧ exs.length ≤ 400 ∧ (∀ e ∈ es, ∃ i, RunOk W xs e i) ∧ items.length ≤ 1000 ∧ name.length ≤ 1000 ∧
  ∀ (H' : Hp) (kvs' : List (Key × V)) (q cq wq : Addr) (nm' : V) (rep : Str), Out2 t c H H' → RnAt CR H' r dx p f c ds kvs' W xs (plusI items name (cntW (rnW W xs false es))) → H' t = some (.ins CT dxt (tsFs nm' (.ref ex) name .non line)) → H' q = some (.tup [.ref cq, .ref wq, .str rep]) → H' cq = some (tri (cntW (rnW W xs false es))) → H' wq = some (.lst ((rnW W xs false es).map V.str)) → H q = none → H cq = none → H wq = none → Q (.ref q) H'
theorem ok_Runner_run {f : Addr} {fd : FuncData} {dvs : List V} {kws : List (Str × V)} (F : FunD K "run" "Runner.run" (defArgs s_Runner_run) (defBody s_Runner_run) (defScope s_Runner_run) dvs kws f fd) {C_Example : Addr} (T_Example : Txt_Example K mg C_Example) {C_Test : Addr} (T_Test : Txt_Test K mg C_Test) {C_Runner : Addr} (T_Runner : Txt_Runner K mg C_Runner) (O_Test_examples : OwnM P w K mg base C_Test "examples" 1 ["self"] [] (sp_Test_examples C_Test)) (O_in_force : Own P w K mg base "in_force" 1 ["flags", "options"] [] (sp_in_force K)) (O_Test_tried : OwnM P w K mg base C_Test "tried" 7 ["self", "example", "play", "flags"] [] (sp_Test_tried K C_Example C_Test)) (O_has_failed : Own P w K mg base "has_failed" 1 ["word"] [] (sp_has_failed)) (O_report_of : Own P w K mg base "report_of" 5 ["test", "example", "outcome", "flags", "verbose"] [] (sp_report_of K C_Example C_Test)) (O_Runner_ended_run : OwnM P w K mg base C_Runner "ended_run" 3 ["self", "test", "words", "clear"] [] (sp_Runner_ended_run C_Test C_Runner)) {t_FAIL_FAST : Tok} (c_FAIL_FAST : mg "FAIL_FAST" = some (.str "FAIL_FAST" t_FAIL_FAST)) {t_FIRST_FAILURE : Tok} (c_FIRST_FAILURE : mg "FIRST_FAILURE" = some (.str "REPORT_ONLY_FIRST_FAILURE" t_FIRST_FAILURE)) {t_SKIPPED : Tok} (c_SKIPPED : mg "SKIPPED" = some (.str "skipped" t_SKIPPED)) : FnOk P w K mg base CX0 8 f fd ["self", "test", "verbose", "clear"] (sp_Runner_run C_Example C_Test C_Runner) := by
  refine FunD_okN F sc_Runner_run (fun vs H Q E h => ?_) (fun cdv A outer s H vs Q E hr h => ?_)
  · obtain ⟨_, _, _, _, _, _, _, _, _, _, _, _, _, _, _, _, _, _, _, rfl, _⟩ := h
    rfl
  · obtain ⟨r, dx, p, f, c, ds, kvs, W, xs, items, t, dxt, ex, nm, name, line, exs, es, b, rfl, rn, nd, ht, rt, hex, hes, hle, hok, hl, hnm, k⟩ := h
    refine ⟨_, (pss_cons (ps_set (i := 4) sc_Runner_run.nd rfl (.inl rfl) (pe_lst pa_nil))
      (pss_cons (ps_set (i := 5) sc_Runner_run.nd rfl (.inl rfl) (pe_lst pa_nil))
      (pss_cons (ps_set (i := 6) sc_Runner_run.nd rfl (.inl rfl) pe_bl)
      (pss_cons (ps_set (i := 7) sc_Runner_run.nd rfl (.inl rfl) (pe_fldK (K' := K) rfl (pv 0) rfl))
      (pss_cons (ps_for PassesOwn.never rfl (pi_list (pe_ownM0 O_Test_examples (hr.mono (by decide)) (pv 1))) (pg_name (i := 8) sc_Runner_run.nd rfl (.inl rfl))
          (pss_cut (ps_set (i := 9) sc_Runner_run.nd rfl (.inl rfl) (pe_and (pv 6) (pe_one (pe_cmpR op_in_seq (pe_glob (v := .str "REPORT_ONLY_FIRST_FAILURE") rfl c_FIRST_FAILURE ⟨_, rfl⟩) (pv 7) rfl))))
            (pss_cons (ps_set (i := 7) sc_Runner_run.nd rfl (.inl rfl) (pe_own O_in_force (hr.mono (by decide)) (by rfl) (pa_cons (pe_fldK (K' := K) rfl (pv 0) rfl) (pa_cons (pe_fldK (K' := K) rfl (pv 8) rfl) pa_nil))))
            (pss_cons (ps_set (i := 10) sc_Runner_run.nd rfl (.inl rfl) (pe_ownM O_Test_tried (hr.mono (by decide)) (pv 1) (pa_cons (pv 8) (pa_cons (pe_fldK (K' := K) rfl (pv 0) rfl) (pa_cons (pv 7) pa_nil)))))
            (pss_cons (ps_expr (pe_bm PySem.F.plainAttrs_list PySem.F.slot_list_append PySem.F.type_list_append mt_append (pv 4) (pa_cons (pe_ix ix_tup (pv 10) pe_int (fun _ _ => rfl)) pa_nil)))
            (pss_cons (ps_if (pt_cmpR op_eq (pe_ix ix_tup (pv 10) pe_int (fun _ _ => rfl)) (pe_glob (v := .str "skipped") rfl c_SKIPPED ⟨_, rfl⟩) (nomark _))
                (pss_one ps_continue)
                pss_nil)
            (pss_cut (ps_set (i := 6) sc_Runner_run.nd rfl (.inl rfl) (pe_or (pv 6) (pe_one (pe_own O_has_failed (hr.mono (by decide)) (by rfl) (pa_cons (pe_ix ix_tup (pv 10) pe_int (fun _ _ => rfl)) pa_nil)))))
            (pss_cut (ps_if (pt_not (pt_val (pv 9)))
                (pss_one (ps_expr (pe_bm PySem.F.plainAttrs_list PySem.F.slot_list_append PySem.F.type_list_append mt_append (pv 5) (pa_cons (pe_own O_report_of (hr.mono (by decide)) (by rfl) (pa_cons (pv 1) (pa_cons (pv 8) (pa_cons (pv 10) (pa_cons (pv 7) (pa_cons (pv 2) pa_nil)))))) pa_nil))))
                pss_nil)
            (pss_one (ps_if (PW.pt (pw_and (pt_val (pv 6)) (pw_and1 (pt_cmpR op_in_seq (pe_glob (v := .str "FAIL_FAST") rfl c_FAIL_FAST ⟨_, rfl⟩) (pv 7) rfl))))
                (pss_one ps_break)
                pss_nil))))))))))
      (pss_one (ps_ret (pe_tup (pa_cons (pe_ownM O_Runner_ended_run (hr.mono (by decide)) (pv 0) (pa_cons (pv 1) (pa_cons (pv 4) (pa_cons (pv 3) pa_nil)))) (pa_cons (pv 4) (pa_cons (pe_m1 PySem.F.slot_str_join PySem.F.type_str_join mt_join pe_str (pv 5)) pa_nil))))))))))), ?_⟩
    have les := paired_len hes
    refine ⟨by decide, fun L nL => ?_⟩
    have sL := same_new (o := .lst []) nL
    refine ⟨by decide, fun R nR => ?_⟩
    have sR := same_new (o := .lst []) nR
    have LR : L ≠ R := fun z => by
      rw [← z, upd_same] at nR
      cases nR
    have nRH : H R = none := sL.free nR
    have s0 := sL.trans sR
    have e0L : (upd (upd H L (.lst [])) R (.lst [])) L = some (.lst []) := sR _ _ upd_same
    have e0R : (upd (upd H L (.lst [])) R (.lst [])) R = some (.lst []) := upd_same
    generalize upd (upd H L (.lst [])) R (.lst []) = H0 at s0 e0L e0R ⊢
    refine ⟨.ref r, rfl, r, C_Runner, dx, _, _, rfl, (rn.same s0).ins, T_Runner.cl, T_Runner.n__flags, rfl, ?_⟩
    refine ⟨.ref t, rfl, t, dxt, _, rfl, s0 _ _ ht, rfl, t, dxt, ex, nm, exs, name, .non, line, rfl, s0 _ _ ht, s0 _ _ hex, fun X nX => ?_⟩
    have nXH := s0.free nX
    have sX := same_new (o := .lst exs) nX
    have s1 := s0.trans sX
    have e1L := sX _ _ e0L
    have e1R := sX _ _ e0R
    have e1X : (upd H0 X (.lst exs)) X = some (.lst exs) := upd_same
    have XL : X ≠ L := fun z => by
      rw [z, e0L] at nX
      cases nX
    have XR : X ≠ R := fun z => by
      rw [z, e0R] at nX
      cases nX
    generalize upd H0 X (.lst exs) = H1 at s1 e1L e1R e1X ⊢
    refine ⟨X, rfl, ⟨_, SqL.of e1X⟩, ?_⟩
    refine for_listE (K := K) (a := X) (xs := exs)
      (fun i σ H2 => ∃ (fd : Bool) (fl : Addr) (fs : List Str) (v8 v9 v10 : Option V) (ws rs : List Str), σ = [some (.ref r), some (.ref t), some (.bl false), some (.bl b), some (.ref L), some (.ref R), some (.bl fd), some (.ref fl), v8, v9, v10] ∧ Same H H2 ∧ H2 X = some (.lst exs) ∧ H2 L = some (.lst (ws.map V.str)) ∧ H2 R = some (.lst (rs.map V.str)) ∧ H2 fl = some (.lst (fs.map V.str)) ∧ ws ++ rnW W xs fd (es.drop i) = rnW W xs false es ∧ ws.length = i ∧ (rs.map (·.length)).sum ≤ 36000 * i ∧ rs.length ≤ i)
      (fun σ H2 => ∃ (v6 v7 v8 v9 v10 : Option V) (ws rs : List Str), σ = [some (.ref r), some (.ref t), some (.bl false), some (.bl b), some (.ref L), some (.ref R), v6, v7, v8, v9, v10] ∧ Same H H2 ∧ H2 L = some (.lst (ws.map V.str)) ∧ H2 R = some (.lst (rs.map V.str)) ∧ ws = rnW W xs false es ∧ (rs.map (·.length)).sum ≤ 36000 * 400 ∧ rs.length ≤ 400)
      ?_ ⟨false, f, xs, none, none, none, [], [], rfl, s1, e1X, e1L, e1R, s1 _ _ rn.flags, rfl, rfl, Nat.zero_le _, Nat.zero_le _⟩ (fun i σ H2 _ h => by
        obtain ⟨_, _, _, _, _, _, _, _, _, _, eX, _⟩ := h
        exact SqL.of eX) ?_ ?_
    · rintro σ H2 ⟨v6, v7, v8, v9, v10, ws, rs, rfl, s2, eL, eR, ew, hr, hrl⟩
      have rn2 := rn.same s2
      have lw : ws.length ≤ 1000 := by
        rw [ew]
        have := rnW_len W xs es false
        omega
      refine ⟨.ref r, rfl, r, dx, _, rfl, rn2.ins, rfl, .ref t, rfl, .ref L, rfl, .bl b, rfl, ?_⟩
      refine ⟨r, dx, p, f, c, ds, kvs, W, xs, items, t, dxt, nm, .ref ex, name, .non, line, L, ws, b, rfl, rn2, s2 _ _ ht, rt, eL, lw, hl, fun H3 kvs' cq nm' o3 rn3 h3 nq eq => ?_⟩
      have kt : ∀ {b : Addr} {o : HO}, H2 b = some o → (∀ D dx fs, o ≠ .ins D dx fs) → (∀ ks, o ≠ .dK ks) → H3 b = some o := fun {b o} e n1 n2 => o3 _ _ e (fun z => by
        rw [z, s2 _ _ ht] at e
        cases e
        exact n1 _ _ _ rfl) (fun z => by
        rw [z, rn2.cnts] at e
        cases e
        exact n2 _ rfl)
      have eL3 := kt eL nofun nofun
      have eR3 := kt eR nofun nofun
      refine ⟨.ref L, rfl, ⟨_, rfl⟩, .ref R, rfl, "", R, rs, rfl, rfl, .inl (SqL.of eR3), ?_, by show 3 ≤ sizeLine; decide, fun q nq2 => ?_⟩
      · have e0 : ("" : Str).length = 0 := by decide +kernel
        rw [e0, Nat.mul_zero]
        exact Nat.le_trans (by omega : _ ≤ 36000 * 400) (by decide)
      · have sq := same_new (o := .tup [.ref cq, .ref L, .str (Txt.join "" rs)]) nq2
        have fresh : ∀ {z : Addr}, H3 z = none → H z = none := fun {z} nz => by
          cases e : H z with
          | none => rfl
          | some o =>
            have h1 := s2 _ _ e
            by_cases a1 : z = t
            · rw [a1, h3] at nz
              cases nz
            · by_cases a2 : z = c
              · rw [a2, rn3.cnts] at nz
                cases nz
              · rw [o3 _ _ h1 a1 a2] at nz
                cases nz
        have nL2 : H L = none := nL
        rw [ew] at rn3 eq
        refine k _ kvs' q cq L nm' (Txt.join "" rs) (fun b o e n1 n2 => sq _ _ (o3 _ _ (s2 _ _ e) n1 n2)) (rn3.same sq) (sq _ _ h3) upd_same (sq _ _ eq) ?_ (fresh nq2) (s2.free nq) nL2
        rw [← ew]
        exact sq _ _ eL3
    · rintro i v σ H2 hv ⟨fd, fl, fs, v8, v9, v10, ws, rs, rfl, s2, eX, eL, eR, eF, ew, hw, hr, hrl⟩ fin
      have hi : i < es.length := by rw [← les]; exact (List.getElem?_eq_some_iff.mp hv).1
      have ge : es[i]? = some es[i] := List.getElem?_eq_getElem hi
      generalize es[i] = e at ge
      have hex2 : ExAt C_Example H v e := paired_at hes hv ge
      obtain ⟨ia, ok⟩ := hok e (List.mem_of_getElem? ge)
      rw [rnW_step ge] at ew
      have rn2 := rn.same s2
      refine ⟨fun σ H3 => (∃ qb : Bool, σ = [some (.ref r), some (.ref t), some (.bl false), some (.bl b), some (.ref L), some (.ref R), some (.bl fd), some (.ref fl), some v, some (.bl qb), v10]) ∧ H3 = H2, ?_, ?_⟩
      · refine ⟨.bl fd, rfl, fd, rfl, ?_⟩
        cases fd with
        | true => exact iteT ⟨.ref fl, rfl, fl, _, rfl, .inl (SqL.of eF), rfl, flat_strs fs, ⟨_, rfl⟩, rfl⟩
        | false => exact iteF ⟨⟨_, rfl⟩, rfl⟩
      rintro σ H3 ⟨⟨qb, rfl⟩, rfl⟩
      obtain ⟨a, dxe, fse, rfl, ha, ef⟩ := hex2
      obtain ⟨o, lo, ho⟩ := ef.options
      refine ⟨.ref r, rfl, r, C_Runner, dx, _, _, rfl, rn2.ins, T_Runner.cl, T_Runner.n__flags, rfl, .ref a, rfl, a, C_Example, dxe, fse, _, rfl, s2 _ _ ha, T_Example.cl, T_Example.n_options, lo, ?_⟩
      refine ⟨f, o, xs, e.kv, rfl, SqL.of rn2.flags, s2 _ _ ho, ok.opts, fun H4 F s4 nF eF4 => ?_⟩
      have s24 := s2.trans s4
      have rn4 := rn.same s24
      have he4 : ExAt C_Example H4 (.ref a) e := ⟨a, dxe, fse, rfl, s24 _ _ ha, ef.same s24⟩
      refine ⟨.ref t, rfl, t, dxt, _, rfl, s24 _ _ ht, rfl, .ref a, rfl, .ref r, rfl, r, C_Runner, dx, _, _, rfl, rn4.ins, T_Runner.cl, T_Runner.n__play, rfl, .ref F, rfl, ?_⟩
      refine ⟨t, dxt, .ref ex, name, .non, line, .ref a, e, p, nm, ds, W, lookS W e.br, ia, F, forceF xs e.kv, rfl, s24 _ _ ht, he4, Nat.le_trans ok.want (by decide), rn4.play, rn4.acts, nd, ok.act, Nat.le_trans ok.sz (by decide), .inl (SqL.of eF4), ok.noW, fun H5 q s5 nq eq => ?_⟩
      have s25 := s24.trans s5
      have eL5 := s5 _ _ (s4 _ _ eL)
      have eR5 := s5 _ _ (s4 _ _ eR)
      have eX5 := s5 _ _ (s4 _ _ eX)
      have eF5 := s5 _ _ eF4
      have hwd : (outW (lookS W e.br) e (forceF xs e.kv)).1 = wordE W xs e := rfl
      rw [hwd] at eq
      have gl := got_len (lookS W e.br) e (forceF xs e.kv) ok.sz
      generalize (outW (lookS W e.br) e (forceF xs e.kv)).2 = got at eq gl
      have we : wordE W xs e ≠ "error" := word_no_error _ _ _
      generalize wordE W xs e = wd at eq ew we
      refine ⟨.ref L, rfl, .inl ⟨rfl, _, SqL.of eL5⟩, .ref q, rfl, q, _, 0, .str wd, rfl, rfl, SqT.of eq, rfl, L, _, _, rfl, rfl, eL5, ?_, ?_⟩
      · rw [List.length_map]
        exact small_line (by omega)
      have nqL : q ≠ L := fun z => by
        have := (s4 _ _ eL)
        rw [← z, nq] at this
        cases this
      have eL6 : (upd H5 L (.lst (ws.map V.str ++ [V.str wd]))) L = some (.lst ((ws ++ [wd]).map V.str)) := by
        rw [upd_same, List.map_append]
        rfl
      have XL5 : X ≠ L := XL
      have LR5 : R ≠ L := LR.symm
      have FL : F ≠ L := fun z => by
        rw [z, eL] at nF
        cases nF
      have FR : F ≠ R := fun z => by
        rw [z, eR] at nF
        cases nF
      have eX6 : (upd H5 L (.lst (ws.map V.str ++ [V.str wd]))) X = some (.lst exs) := by rw [upd_ne XL5]; exact eX5
      have eR6 : (upd H5 L (.lst (ws.map V.str ++ [V.str wd]))) R = some (.lst (rs.map V.str)) := by rw [upd_ne LR5]; exact eR5
      have eF6 : (upd H5 L (.lst (ws.map V.str ++ [V.str wd]))) F = some (.lst ((forceF xs e.kv).map V.str)) := by rw [upd_ne FL]; exact eF5
      have eq6 : (upd H5 L (.lst (ws.map V.str ++ [V.str wd]))) q = some (.tup [.str wd, .str got, .non]) := by rw [upd_ne nqL]; exact eq
      have s6 : Same H (upd H5 L (.lst (ws.map V.str ++ [V.str wd]))) := fun b o e => by
        rw [upd_ne (ne_of_none e nL)]
        exact s25 _ _ e
      generalize upd H5 L (.lst (ws.map V.str ++ [V.str wd])) = H6 at eL6 eX6 eR6 eF6 eq6 s6 ⊢
      refine ⟨.ref q, rfl, q, _, 0, .str wd, rfl, rfl, SqT.of eq6, rfl, rfl, _, rfl, ?_⟩
      by_cases hsk : wd = "skipped"
      · rw [decide_eq_true (congrArg V.str hsk)]
        rw [if_pos hsk] at ew
        refine iteT ⟨fd, F, forceF xs e.kv, _, _, _, ws ++ [wd], rs, rfl, s6, eX6, eL6, eR6, eF6, ?_, ?_, ?_, ?_⟩
        · rw [List.append_assoc]
          exact ew
        · rw [List.length_append, hw]
          rfl
        · omega
        · omega
      rw [decide_eq_false (fun z => hsk (V.str.inj z))]
      rw [if_neg hsk] at ew
      refine iteF ?_
      refine ⟨fun σ H7 => σ = [some (.ref r), some (.ref t), some (.bl false), some (.bl b), some (.ref L), some (.ref R), some (.bl (fd || failF wd)), some (.ref F), some (.ref a), some (.bl qb), some (.ref q)] ∧ Same H6 H7, ?_, ?_⟩
      · refine ⟨.bl fd, rfl, fd, rfl, ?_⟩
        cases fd with
        | true => exact iteT ⟨rfl, fun _ _ e => e⟩
        | false => exact iteF ⟨.ref q, rfl, q, _, 0, .str wd, rfl, rfl, SqT.of eq6, rfl, wd, rfl, fun H7 s7 => ⟨rfl, s7⟩⟩
      rintro σ H7 ⟨rfl, s7⟩
      have s67 := s6.trans s7
      generalize (fd || failF wd) = fd2 at ew
      refine ⟨fun σ H8 => ∃ rs2 : List Str, σ = [some (.ref r), some (.ref t), some (.bl false), some (.bl b), some (.ref L), some (.ref R), some (.bl fd2), some (.ref F), some (.ref a), some (.bl qb), some (.ref q)] ∧ Same H H8 ∧ H8 X = some (.lst exs) ∧ H8 L = some (.lst ((ws ++ [wd]).map V.str)) ∧ H8 R = some (.lst (rs2.map V.str)) ∧ H8 F = some (.lst ((forceF xs e.kv).map V.str)) ∧ (rs2.map (·.length)).sum ≤ 36000 * (i + 1) ∧ rs2.length ≤ i + 1, ?_, ?_⟩
      · refine ⟨.bl qb, rfl, qb, rfl, ?_⟩
        cases qb with
        | true => exact iteF ⟨rs, rfl, s67, s7 _ _ eX6, s7 _ _ eL6, s7 _ _ eR6, s7 _ _ eF6, by omega, by omega⟩
        | false =>
          refine iteT ⟨.ref R, rfl, .inl ⟨rfl, _, SqL.of (s7 _ _ eR6)⟩, .ref t, rfl, .ref a, rfl, .ref q, rfl, .ref F, rfl, .bl false, rfl, ?_⟩
          refine ⟨t, dxt, q, F, nm, .ref ex, name, line, .ref a, e, wd, got, forceF xs e.kv, rfl, s67 _ _ ht, ⟨a, dxe, fse, rfl, s67 _ _ ha, ef.same s67⟩, hnm, ok.line, s7 _ _ eq6, we, ok.want, ok.src, gl, .inl (SqL.of (s7 _ _ eF6)), force_flags xs e.kv, fun H8 rep s8 lr => ?_⟩
          have eR8 := s8 _ _ (s7 _ _ eR6)
          refine ⟨R, _, _, rfl, rfl, eR8, ?_, rs ++ [rep], rfl, ?_, ?_, ?_, ?_, ?_, ?_, ?_⟩
          · rw [List.length_map]
            exact small_line (by omega)
          · intro b o e
            rw [upd_ne (ne_of_none e nRH)]
            exact s8 _ _ (s67 _ _ e)
          · rw [upd_ne XR]
            exact s8 _ _ (s7 _ _ eX6)
          · rw [upd_ne LR]
            exact s8 _ _ (s7 _ _ eL6)
          · rw [upd_same, List.map_append]
            rfl
          · rw [upd_ne FR]
            exact s8 _ _ (s7 _ _ eF6)
          · rw [List.map_append, List.sum_append]
            show _ + (rep.length + 0) ≤ _
            omega
          · rw [List.length_append]
            show _ + 1 ≤ _
            omega
      rintro σ H8 ⟨rs2, rfl, s8, eX8, eL8, eR8, eF8, hr8, hl8⟩
      have go : (fd2 && has "FAIL_FAST" (forceF xs e.kv)) = false → ∃ (fd : Bool) (fl : Addr) (fs : List Str) (v8 v9 v10 : Option V) (ws2 rs : List Str), [some (.ref r), some (.ref t), some (.bl false), some (.bl b), some (.ref L), some (.ref R), some (.bl fd2), some (.ref F), some (.ref a), some (.bl qb), some (.ref q)] = [some (.ref r), some (.ref t), some (.bl false), some (.bl b), some (.ref L), some (.ref R), some (.bl fd), some (.ref fl), v8, v9, v10] ∧ Same H H8 ∧ H8 X = some (.lst exs) ∧ H8 L = some (.lst (ws2.map V.str)) ∧ H8 R = some (.lst (rs.map V.str)) ∧ H8 fl = some (.lst (fs.map V.str)) ∧ ws2 ++ rnW W xs fd (es.drop (i + 1)) = rnW W xs false es ∧ ws2.length = i + 1 ∧ (rs.map (·.length)).sum ≤ 36000 * (i + 1) ∧ rs.length ≤ i + 1 := by
        intro hff
        rw [hff, if_neg Bool.false_ne_true] at ew
        refine ⟨fd2, F, forceF xs e.kv, _, _, _, ws ++ [wd], rs2, rfl, s8, eX8, eL8, eR8, eF8, ?_, ?_, hr8, hl8⟩
        · rw [List.append_assoc]
          exact ew
        · rw [List.length_append, hw]
          rfl
      refine ⟨.bl fd2, rfl, fd2, rfl, ?_⟩
      cases fd2 with
      | false => exact iteF (go rfl)
      | true =>
        refine iteT ⟨.ref F, rfl, F, _, rfl, .inl (SqL.of eF8), rfl, flat_strs _, _, rfl, ?_⟩
        rw [inV_str]
        cases hff : has "FAIL_FAST" (forceF xs e.kv) with
        | false => exact iteF (go (by rw [hff]; rfl))
        | true =>
          rw [hff] at ew
          have ew : ws ++ wd :: [] = rnW W xs false es := ew
          refine iteT (fin _ _ ⟨_, _, _, _, _, ws ++ [wd], rs2, rfl, s8, eL8, eR8, ew, ?_, ?_⟩)
          · have : i < 400 := by omega
            omega
          · omega
    · rintro σ H2 ⟨fd, fl, fs, v8, v9, v10, ws, rs, rfl, s2, eX, eL, eR, eF, ew, hw, hr, hrl⟩
      rw [les, List.drop_length] at ew
      refine ⟨_, _, _, _, _, ws, rs, rfl, s2, eL, eR, ?_, Nat.le_trans hr (Nat.mul_le_mul_left _ hle), Nat.le_trans hrl hle⟩
      rw [← ew]
      exact (List.append_nil _).symm
end

/-! ### summaries -/
theorem none_app (x : Str) : Str.empty ++ x = x := ext_tl (by
  rw [tl_append]
  rfl)
def natS (n : Nat) : Str := Str.ofString (toString ((n : Nat) : Int))
theorem log_ok {n : Nat} (h : n < 1000000) : ((n : Nat) : Int).natAbs.log2 < 1920 := by
  show n.log2 < 1920
  by_cases h0 : n = 0
  · rw [h0]
    decide
  · exact (Nat.log2_lt h0).mpr (Nat.lt_of_lt_of_le h (Nat.le_trans (by decide : 1000000 ≤ 2 ^ 20) (Nat.pow_le_pow_right (by decide) (by decide))))
theorem natS_len {n : Nat} (h : n < 1000000) : (natS n).length ≤ 1921 := PyProof.Rows.int_text_len_1921 (log_ok h)
def numT (n : Nat) (w : Str) : Str := if n = 1 then natS n ++ " " ++ w else natS n ++ " " ++ w ++ "s"
theorem numT_len {n : Nat} {w : Str} (h : n < 1000000) : (numT n w).length ≤ 1923 + w.length := by
  have h1 := natS_len h
  have e1 : (" " : Str).length = 1 := by decide +kernel
  have e2 : ("s" : Str).length = 1 := by decide +kernel
  unfold numT
  split
  · rw [len_app, len_app]
    omega
  · rw [len_app, len_app, len_app]
    omega
def rj (n : Nat) : Str := Txt.rjust (natS n) 3
def headT (h : Str) (rows : List Str) : List Str := if rows.isEmpty = true then [] else (numT rows.length "item" ++ " " ++ h) :: rows
def idleRow (x : Str) : Str := "    " ++ x
def goodRow (x : Str) (n : Nat) : Str := " " ++ rj n ++ " " ++ (if n = 1 then ("test" : Str) else "tests") ++ " in " ++ x
def badRow (x : Str) (c : T3) : Str := " " ++ rj c.1 ++ " of " ++ rj c.2.1 ++ " in " ++ x
def idleN (ns : List Str) (lk : Str → T3) : List Str := ns.filter fun x => (lk x).2.1 == 0
def goodN (ns : List Str) (lk : Str → T3) : List Str := ns.filter fun x => decide (0 < (lk x).2.1) && ((lk x).1 == 0)
def badN (ns : List Str) (lk : Str → T3) : List Str := ns.filter fun x => decide (0 < (lk x).1)
def idleR (ns : List Str) (lk : Str → T3) : List Str := headT "had no tests:" ((idleN ns lk).map idleRow)
def goodR (ns : List Str) (lk : Str → T3) : List Str := headT "passed all tests:" ((goodN ns lk).map fun x => goodRow x (lk x).2.1)
def starS : Str := Txt.removesuffix "**********************************************************************\n" "\n"
def badR (ns : List Str) (lk : Str → T3) : List Str := let rows := headT "had failures:" ((badN ns lk).map fun x => badRow x (lk x)); if rows.isEmpty = true then [] else starS :: rows
def totR (n : Nat) (c : T3) : List Str := [numT c.2.1 "test" ++ " in " ++ numT n "item" ++ ".", if c.1 = 0 then natS c.2.1 ++ " passed." else natS (c.2.1 - c.1) ++ " passed and " ++ natS c.1 ++ " failed."]
def lastR (loud : Bool) (c : T3) : List Str := if c.1 = 0 then (if loud = true then ["Test passed."] else []) else ["***Test Failed*** " ++ numT c.1 "failure" ++ (if c.2.2 = 0 then ("" : Str) else " and " ++ numT c.2.2 "skipped test") ++ "."]
def sumR (ns : List Str) (lk : Str → T3) (loud : Bool) : List Str := (if loud = true then idleR ns lk ++ goodR ns lk ++ badR ns lk ++ totR ns.length (sumT3 (ns.map lk)) else badR ns lk) ++ lastR loud (sumT3 (ns.map lk))
def sumS (ns : List Str) (lk : Str → T3) (loud : Bool) : Str := Txt.join "" ((sumR ns lk loud).map fun r => r ++ "\n")
/-- what is asked of names and counts -/
structure NmOk (ns : List Str) (lk : Str → T3) : Prop where
  nd : ns.Nodup
  len : ns.length ≤ 60
  name : ∀ x ∈ ns, x.length ≤ 1000
  one : ∀ x ∈ ns, (lk x).1 < 2000 ∧ (lk x).2.1 < 2000 ∧ (lk x).2.2 < 2000 ∧ (lk x).1 ≤ (lk x).2.1
  all : (sumT3 (ns.map lk)).1 < 1000000 ∧ (sumT3 (ns.map lk)).2.1 < 1000000 ∧ (sumT3 (ns.map lk)).2.2 < 1000000 ∧ (sumT3 (ns.map lk)).1 ≤ (sumT3 (ns.map lk)).2.1
def itemsOf (ns : List Str) (lk : Str → T3) : List (Str × T3) := ns.map fun x => (x, lk x)
theorem items_names (ns : List Str) (lk : Str → T3) : (itemsOf ns lk).map (·.1) = ns := by
  unfold itemsOf
  rw [List.map_map]
  exact List.map_id ns
theorem look_items {lk : Str → T3} : ∀ {ns : List Str} {x : Str}, x ∈ ns → lookI (itemsOf ns lk) x = some (lk x)
  | y :: ns, x, h => by
    unfold lookI itemsOf
    rw [List.map_cons, List.find?_cons]
    by_cases e : y = x
    · rw [decide_eq_true e, e]
      rfl
    · rw [decide_eq_false e]
      rcases List.mem_cons.mp h with z | z
      · exact absurd z.symm e
      · exact look_items z
/-- the key's text -/
def keyP (pN : Str → Bool) : Key → V → Bool
  | .inr x, _ => pN x
  | .inl _, _ => false
theorem keys_filter (pN : Str → Bool) : ∀ {kvs : List (Key × V)} {ns : List Str}, kvs.map (·.1) = ns.map Sum.inr → (kvs.filter fun q => keyP pN q.1 q.2).map (fun q => kV q.1) = (ns.filter pN).map V.str
  | [], [], _ => rfl
  | (k, v) :: r, x :: ns, h => by
    have h1 : k = Sum.inr x := (List.cons.inj h).1
    have ih := keys_filter pN (List.cons.inj h).2
    subst h1
    rw [List.filter_cons, List.filter_cons]
    show List.map _ (if pN x = true then _ else _) = _
    by_cases e : pN x = true
    · rw [if_pos e, if_pos e, List.map_cons, List.map_cons, ih]
      rfl
    · rw [if_neg e, if_neg e, ih]
  | [], _ :: _, h => by cases h
  | _ :: _, [], h => by cases h
theorem lock_same {H H2 : Hp} {d : Addr} {od : Obj} {kvs : List (Key × V)} (hd : H d = some (.dK kvs)) (s : Same (upd H d (.frz od (.dK kvs))) H2) : Same H (upd H2 d (.dK kvs)) := fun b o e => by
  by_cases hb : b = d
  · rw [hb] at e ⊢
    rw [hd] at e
    cases e
    exact upd_same
  · rw [upd_ne hb]
    refine s _ _ ?_
    rw [upd_ne hb]
    exact e
theorem sz {n : Nat} (h : n ≤ 1000000) : n ≤ sizeLine := line_of h
section
variable {P : Program} {w : World} {K : PySem.W.Frag} {mg : Str → Option Value} {base : Heap}
def sp_number_of : Sp := fun vs H Q _ => ∃ (n : Nat) (x : Str), vs = [.int (n : Nat), .str x] ∧ n < 1000000 ∧ x.length ≤ 1000 ∧ Q (.str (numT n x)) H
theorem ok_number_of {f : Addr} {fd : FuncData} {dvs : List V} (F : Fn K "number_of" s_number_of dvs f fd) : FnOk P w K mg base CX0 1 f fd ["number", "word"] (sp_number_of) := by
  refine Fn.okN F sc_number_of (fun vs H Q E h => ?_) (fun cdv A outer s H vs Q E hr h => ?_)
  · obtain ⟨_, _, rfl, _⟩ := h
    rfl
  · obtain ⟨n, x, rfl, hn, hx, k⟩ := h
    refine ⟨_, (pss_one (ps_ret (pe_ifExp (pt_cmpR op_eq (pv 0) pe_int (nomark _)) (pe_joined (PJ.cons (pe_fmt (pv 0)) (PJ.cons pe_str (PJ.cons (pe_fmt (pv 1)) PJ.nil)))) (pe_joined (PJ.cons (pe_fmt (pv 0)) (PJ.cons pe_str (PJ.cons (pe_fmt (pv 1)) (PJ.cons pe_str PJ.nil)))))))), ?_⟩
    have l1 := natS_len hn
    have ll := log_ok hn
    have e1 : (" " : Str).length = 1 := by decide +kernel
    have e2 : ("s" : Str).length = 1 := by decide +kernel
    have l0 : Str.empty.length = 0 := rfl
    unfold numT at k
    refine ⟨.int (n : Nat), rfl, rfl, _, rfl, ?_⟩
    by_cases h : n = 1
    · rw [if_pos h] at k
      rw [decide_eq_true (by rw [h]; rfl)]
      refine iteT ⟨.int (n : Nat), rfl, .inr ⟨_, rfl, ll, natS n, rfl, sz (by rw [len_app]; omega), _, rfl, sz (by rw [len_app, len_app]; omega), .str x, rfl, .inl ⟨x, rfl, sz (by omega), x, rfl, sz (by rw [len_app, len_app, len_app]; omega), ?_⟩⟩⟩
      rw [none_app]
      exact k
    · rw [if_neg h] at k
      rw [decide_eq_false (fun z => h (by have := V.int.inj z; omega))]
      refine iteF ⟨.int (n : Nat), rfl, .inr ⟨_, rfl, ll, natS n, rfl, sz (by rw [len_app]; omega), _, rfl, sz (by rw [len_app, len_app]; omega), .str x, rfl, .inl ⟨x, rfl, sz (by omega), x, rfl, sz (by rw [len_app, len_app, len_app]; omega), _, rfl, sz (by rw [len_app, len_app, len_app, len_app]; omega), ?_⟩⟩⟩
      rw [none_app]
      exact k
def sp_headed : Sp := fun vs H Q _ => ∃ (x : Str) (L : Addr) (rows : List Str), vs = [.str x, .ref L] ∧ x.length ≤ 100 ∧ H L = some (.lst (rows.map V.str)) ∧ rows.length ≤ 100 ∧ ∀ (H' : Hp) (M : Addr), Same H H' → H M = none → H' M = some (.lst ((headT x rows).map V.str)) → Q (.ref M) H'
theorem ok_headed {f : Addr} {fd : FuncData} {dvs : List V} (F : Fn K "headed" s_headed dvs f fd) (O_number_of : Own P w K mg base "number_of" 1 ["number", "word"] [] (sp_number_of)) (m_len : mg "len" = none) : FnOk P w K mg base CX0 2 f fd ["head", "lines"] (sp_headed) := by
  refine Fn.okN F sc_headed (fun vs H Q E h => ?_) (fun cdv A outer s H vs Q E hr h => ?_)
  · obtain ⟨_, _, _, rfl, _⟩ := h
    rfl
  · obtain ⟨x, L, rows, rfl, hh, hL, hrows, k⟩ := h
    refine ⟨_, (pss_one (ps_ret (pe_ifExp (pt_tr (K' := K) (pv 1)) (pe_op op_cat (pe_lst (pa_cons (pe_joined (PJ.cons (pe_fmt (pe_own O_number_of (hr.mono (by decide)) (by rfl) (pa_cons (pe_callB call_len_seq (by rfl) m_len PySem.boot_len (pa_cons (pv 1) pa_nil)) (pa_cons pe_str pa_nil)))) (PJ.cons pe_str (PJ.cons (pe_fmt (pv 0)) PJ.nil)))) pa_nil)) (pv 1)) (pe_lst pa_nil)))), ?_⟩
    unfold headT at k
    refine ⟨.ref L, rfl, !rows.isEmpty, .inl ⟨_, SqL.of hL, by rw [List.isEmpty_map]⟩, ?_⟩
    cases e : rows.isEmpty with
    | true =>
      rw [e, if_pos rfl] at k
      exact iteF ⟨by decide, fun M nM => k _ M (same_new nM) nM upd_same⟩
    | false =>
      rw [e, if_neg Bool.false_ne_true] at k
      have l1 := @numT_len rows.length "item" (by omega)
      have e4 : ("item" : Str).length = 4 := by decide +kernel
      have e1 : (" " : Str).length = 1 := by decide +kernel
      have l0 : Str.empty.length = 0 := rfl
      refine iteT ⟨.ref L, rfl, L, _, rfl, .inl (SqL.of hL), rows.length, "item", by rw [List.length_map]; rfl, by omega, by omega, .inl ⟨_, rfl, sz (by omega), _, rfl, sz (by rw [len_app]; omega), _, rfl, sz (by rw [len_app, len_app]; omega), .str x, rfl, .inl ⟨x, rfl, sz (by omega), x, rfl, sz (by rw [len_app, len_app, len_app]; omega), (show 1 ≤ sizeLine by decide), fun X nX => ?_⟩⟩⟩
      have sX := same_new (o := .lst [V.str (Str.empty ++ numT rows.length "item" ++ " " ++ x)]) nX
      refine ⟨.ref L, rfl, X, L, _, _, rfl, rfl, upd_same, sX _ _ hL, (by rw [List.length_map]; exact sz (show 1 + rows.length ≤ _ by omega)), fun M nM => ?_⟩
      refine k _ M (sX.trans (same_new nM)) (sX.free nM) ?_
      rw [upd_same, none_app]
      rfl
def sp_passed_line : Sp := fun vs H Q _ => ∃ (x : Str) (n : Nat), vs = [.str x, .int (n : Nat)] ∧ x.length ≤ 1000 ∧ n < 2000 ∧ Q (.str (goodRow x n)) H
theorem ok_passed_line {f : Addr} {fd : FuncData} {dvs : List V} (F : Fn K "passed_line" s_passed_line dvs f fd) (z_dg1 : PySem.W.nsOkIn K cStatics = true) (z_dg : PySem.W.nsIn K cStatics "sys.int_max_str_digits" = some none) : FnOk P w K mg base CX0 1 f fd ["name", "tried"] (sp_passed_line) := by
  refine Fn.okN F sc_passed_line (fun vs H Q E h => ?_) (fun cdv A outer s H vs Q E hr h => ?_)
  · obtain ⟨_, _, rfl, _⟩ := h
    rfl
  · obtain ⟨x, n, rfl, hx, hn, k⟩ := h
    refine ⟨_, (pss_cut (ps_set (i := 2) sc_passed_line.nd rfl (.inl rfl) (pe_ifExp (pt_cmpR op_eq (pv 1) pe_int (nomark _)) pe_str pe_str))
      (pss_one (ps_ret (pe_joined (PJ.cons pe_str (PJ.cons (pe_fmtS (pv 1) (pe_joined1 pe_str) z_dg1 z_dg) (PJ.cons pe_str (PJ.cons (pe_fmt (pv 2)) (PJ.cons pe_str (PJ.cons (pe_fmt (pv 0)) PJ.nil)))))))))), ?_⟩
    obtain ⟨s1, s2⟩ := spec3_at hn
    have l0 : Str.empty.length = 0 := rfl
    have e1 : (" " : Str).length = 1 := by decide +kernel
    have e2 : (" in " : Str).length = 4 := by decide +kernel
    have e3 : (">3" : Str).length = 2 := by decide +kernel
    refine ⟨fun σ H1 => H1 = H ∧ ∃ y : Str, σ = [some (.str x), some (.int (n : Nat)), some (.str y)] ∧ y = (if n = 1 then ("test" : Str) else "tests") ∧ y.length ≤ 5, ?_, ?_⟩
    · refine ⟨.int (n : Nat), rfl, rfl, _, rfl, ?_⟩
      by_cases h : n = 1
      · rw [decide_eq_true (by rw [h]; rfl)]
        exact iteT ⟨rfl, _, rfl, (if_pos h).symm, by decide +kernel⟩
      · rw [decide_eq_false (fun z => h (by have := V.int.inj z; omega))]
        exact iteF ⟨rfl, _, rfl, (if_neg h).symm, by decide +kernel⟩
    · rintro σ H1 ⟨rfl, y, rfl, ey, ly⟩
      refine ⟨_, rfl, sz (by rw [len_app]; omega), .int (n : Nat), rfl, (n : Nat), ">3", rfl, rfl, spec3_ok, (show n < 1000000000000000000 by omega), sz (by omega), _, rfl, ?_⟩
      rw [s1, none_app]
      refine ⟨sz (by rw [len_app]; omega), _, rfl, sz (by rw [len_app, len_app]; omega), .str y, rfl, .inl ⟨y, rfl, sz (by omega), y, rfl, sz (by simp only [len_app]; omega), _, rfl, sz (by simp only [len_app]; omega), .str x, rfl, .inl ⟨x, rfl, sz (by omega), x, rfl, sz (by simp only [len_app]; omega), ?_⟩⟩⟩
      rw [ey]
      exact k
def sp_failed_line : Sp := fun vs H Q _ => ∃ (x : Str) (t : Addr) (c : T3), vs = [.str x, .ref t] ∧ x.length ≤ 1000 ∧ H t = some (tri c) ∧ c.1 < 2000 ∧ c.2.1 < 2000 ∧ Q (.str (badRow x c)) H
theorem ok_failed_line {f : Addr} {fd : FuncData} {dvs : List V} (F : Fn K "failed_line" s_failed_line dvs f fd) {t_FAILED : Tok} (c_FAILED : mg "FAILED" = some (.int 0 t_FAILED)) {t_TRIED : Tok} (c_TRIED : mg "TRIED" = some (.int 1 t_TRIED)) (z_dg1 : PySem.W.nsOkIn K cStatics = true) (z_dg : PySem.W.nsIn K cStatics "sys.int_max_str_digits" = some none) : FnOk P w K mg base CX0 1 f fd ["name", "counts"] (sp_failed_line) := by
  refine Fn.okN F sc_failed_line (fun vs H Q E h => ?_) (fun cdv A outer s H vs Q E hr h => ?_)
  · obtain ⟨_, _, _, rfl, _⟩ := h
    rfl
  · obtain ⟨x, t, c, rfl, hx, ht, h1, h2, k⟩ := h
    refine ⟨_, (pss_one (ps_ret (pe_joined (PJ.cons pe_str (PJ.cons (pe_fmtS (pe_ix ix_tup (pv 1) (pe_glob (v := .int 0) rfl c_FAILED ⟨_, rfl⟩) (fun _ _ => rfl)) (pe_joined1 pe_str) z_dg1 z_dg) (PJ.cons pe_str (PJ.cons (pe_fmtS (pe_ix ix_tup (pv 1) (pe_glob (v := .int 1) rfl c_TRIED ⟨_, rfl⟩) (fun _ _ => rfl)) (pe_joined1 pe_str) z_dg1 z_dg) (PJ.cons pe_str (PJ.cons (pe_fmt (pv 0)) PJ.nil))))))))), ?_⟩
    obtain ⟨s1, s2⟩ := spec3_at h1
    obtain ⟨s3, s4⟩ := spec3_at h2
    have l0 : Str.empty.length = 0 := rfl
    have e1 : (" " : Str).length = 1 := by decide +kernel
    have e2 : (" in " : Str).length = 4 := by decide +kernel
    have e3 : (">3" : Str).length = 2 := by decide +kernel
    have e4 : (" of " : Str).length = 4 := by decide +kernel
    refine ⟨_, rfl, sz (by rw [len_app]; omega), .ref t, rfl, t, _, 0, .int (c.1 : Nat), rfl, rfl, SqT.of ht, rfl, (c.1 : Nat), ">3", rfl, rfl, spec3_ok, (show c.1 < 1000000000000000000 by omega), sz (by omega), _, rfl, ?_⟩
    rw [s1, none_app]
    refine ⟨sz (by rw [len_app]; omega), _, rfl, sz (by rw [len_app, len_app]; omega), .ref t, rfl, t, _, 1, .int (c.2.1 : Nat), rfl, rfl, SqT.of ht, rfl, (c.2.1 : Nat), ">3", rfl, rfl, spec3_ok, (show c.2.1 < 1000000000000000000 by omega), sz (by omega), _, rfl, ?_⟩
    rw [s3]
    exact ⟨sz (by simp only [len_app]; omega), _, rfl, sz (by simp only [len_app]; omega), .str x, rfl, .inl ⟨x, rfl, sz (by omega), x, rfl, sz (by simp only [len_app]; omega), k⟩⟩
theorem filter_len (p : Str → Bool) (ns : List Str) : (ns.filter p).length ≤ ns.length := List.length_filter_le _ _
theorem items_get {ns : List Str} {lk : Str → T3} {i : Nat} {x : Str} (h : ns[i]? = some x) : (itemsOf ns lk)[i]? = some (x, lk x) := by
  unfold itemsOf
  rw [List.getElem?_map, h]
  rfl
/-- the value of a name in a dict of counts -/
theorem cnt_at {H : Hp} {kvs : List (Key × V)} {ns : List Str} {lk : Str → T3} (h : CntAt H kvs (itemsOf ns lk)) {x : Str} (hx : x ∈ ns) : ∃ t, valV kvs (Sum.inr x) = some (.ref t) ∧ H t = some (tri (lk x)) := by
  rcases cnt_look x h with ⟨_, h2⟩ | ⟨v, c, h1, h2, t, rfl, ht⟩
  · rw [look_items hx] at h2
    cases h2
  · rw [look_items hx] at h2
    cases h2
    exact ⟨t, h1, ht⟩
theorem cnt_frz {H : Hp} {d : Addr} {od : Obj} {kvs : List (Key × V)} {items : List (Str × T3)} (hd : H d = some (.dK kvs)) {kv2 : List (Key × V)} (h : CntAt H kv2 items) : CntAt (upd H d (.frz od (.dK kvs))) kv2 items := h.mono fun t c e => by
  rw [upd_ne (fun z => by rw [z, hd] at e; cases e)]
  exact e
def SumAt (H : Hp) (d : Addr) (ns : List Str) (lk : Str → T3) : Prop := ∃ kvs, H d = some (.dK kvs) ∧ CntAt H kvs (itemsOf ns lk)
def sp_untried_lines : Sp := fun vs H Q _ => ∃ (d : Addr) (ns : List Str) (lk : Str → T3), vs = [.ref d] ∧ SumAt H d ns lk ∧ NmOk ns lk ∧ ∀ (H' : Hp) (L : Addr), Same H H' → H L = none → H' L = some (.lst ((idleR ns lk).map V.str)) → Q (.ref L) H'
theorem ok_untried_lines {f : Addr} {fd : FuncData} {dvs : List V} (F : Fn K "untried_lines" s_untried_lines dvs f fd) (O_headed : Own P w K mg base "headed" 2 ["head", "lines"] [] (sp_headed)) {t_TRIED : Tok} (c_TRIED : mg "TRIED" = some (.int 1 t_TRIED)) : FnOk P w K mg base CX0 3 f fd ["counts"] (sp_untried_lines) := by
  refine Fn.okN F sc_untried_lines (fun vs H Q E h => ?_) (fun cdv A outer s H vs Q E hr h => ?_)
  · obtain ⟨_, _, _, rfl, _⟩ := h
    rfl
  · obtain ⟨d, ns, lk, rfl, hd, ok, k⟩ := h
    refine ⟨_, (pss_cons (ps_lock (ps_setLc (i := 1) (own := [("name", 2)]) (g := gName 2) (by rfl) sc_untried_lines.nd rfl rfl (sw_true rfl rfl rfl (by decide +kernel)) (pi_keys (pv 0)) (blkOk_by (own := [("name", 2)]) (N := ["counts", "items", "name"]) (sc := defScope s_untried_lines) (by decide +kernel)) (fun _ _ _ _ _ => (pg_name (i := 2) sc_untried_lines.nd rfl (.inl rfl))) (fun _ _ _ _ _ => (pts_one (pt_cmpR op_eq (pe_ix (ix_tupK (K' := K) rfl) (pe_dget (hu_of hr) (pv 0) (pv 2) (fun _ _ => rfl)) (pe_glob (v := .int 1) rfl c_TRIED ⟨_, rfl⟩) (fun _ _ => rfl)) pe_int (nomark _)))) (fun _ _ _ _ _ => (pv 2))))
      (pss_one (ps_ret (pe_own O_headed (hr.mono (by decide)) (by rfl) (pa_cons pe_str (pa_cons (pe_lc (own := [("name", 2)]) (g := gName 2) (tt := tYes) (by rfl) sc_untried_lines.nd (pi_list (pv 1)) (blkOk_by (own := [("name", 2)]) (N := ["counts", "items", "name"]) (sc := defScope s_untried_lines) (by decide +kernel)) (fun _ _ _ _ _ => (pg_name (i := 2) sc_untried_lines.nd rfl (.inl rfl))) (fun _ _ _ _ _ => pts_nil) (fun _ _ _ _ _ => (pe_op op_add_str pe_str (pv 2)))) pa_nil)))))), ?_⟩
    obtain ⟨kvs, hd, hc⟩ := hd
    have hkeys : kvs.map (·.1) = ns.map Sum.inr := by
      rw [cnt_keys hc, items_names]
    have hlen : kvs.length = ns.length := by
      rw [cnt_len hc]
      exact List.length_map _
    have hlt := ok.len
    refine ⟨d, .dK kvs, hd, trivial, fun od => ⟨.ref d, rfl, d, od, rfl, .inl ⟨kvs, upd_same, fun D nD => ?_⟩⟩⟩
    have nD1 : H D = none := by
      by_cases e : D = d
      · rw [e, upd_same] at nD
        cases nD
      · rwa [upd_ne e] at nD
    have dD : d ≠ D := ne_of_none hd nD1
    refine lc_keysF (keyP fun x => (lk x).2.1 == 0) upd_same nD (small_line (by omega)) (fun _ => rfl) (fun _ => rfl) (fun i kk v H2 Qb hk s2 kq => ?_) fun H2 s2 _ eD => ?_
    · have gi : (kvs.map (·.1))[i]? = some kk := by rw [List.getElem?_map, hk]; rfl
      rw [hkeys, List.getElem?_map] at gi
      obtain ⟨x, gx, rfl⟩ := Option.map_eq_some_iff.mp gi
      obtain ⟨t, hv, ht⟩ := cnt_at hc (List.mem_of_getElem? gx)
      have td : t ≠ d := fun z => by
        rw [z, hd] at ht
        cases ht
      have ht2 : H2 t = some (tri (lk x)) := s2 _ _ (by rw [upd_ne td]; exact ht)
      refine ⟨.ref d, rfl, .str x, rfl, d, .ref t, rfl, .inl ⟨kvs, Sum.inr x, .inr ⟨od, s2 _ _ upd_same⟩, rfl, hv.symm⟩, t, _, 1, .int ((lk x).2.1 : Nat), rfl, rfl, SqT.of ht2, rfl, rfl, _, rfl, ?_⟩
      have e : decide (V.int (((lk x).2.1 : Nat) : Int) = V.int 0) = ((lk x).2.1 == 0) := by
        rw [Bool.eq_iff_iff, decide_eq_true_iff, beq_iff_eq]
        exact ⟨fun z => by have := V.int.inj z; omega, fun z => by rw [z]; rfl⟩
      rw [e]
      exact kq
    · rw [keys_filter _ hkeys] at eD
      have sH := lock_same hd s2
      refine ⟨s2 _ _ upd_same, ?_⟩
      have eD3 : (upd H2 d (.dK kvs)) D = some (.lst ((idleN ns lk).map V.str)) := by
        rw [upd_ne dD.symm]
        exact eD
      generalize upd H2 d (.dK kvs) = H3 at sH eD3 ⊢
      refine ⟨.ref D, rfl, D, rfl, ⟨_, SqL.of eD3⟩, fun D2 nD2 => ?_⟩
      have lf : (idleN ns lk).length ≤ 60 := Nat.le_trans (List.length_filter_le _ _) hlt
      refine lc_rel (K := K) (a := D) (xs := (idleN ns lk).map V.str) (fun i H y => ∀ x, (idleN ns lk)[i]? = some x → y = .str (idleRow x)) (fun s h => h) (SqL.of eD3) nD2 (by rw [List.length_map]; exact small_line (by omega)) (fun _ => rfl) (fun i v H4 Qy hx s4 kk => ?_) fun H4 ys s4 eL hly hR => ?_
      · obtain ⟨x, rfl, gx⟩ := str_at hx
        have mx : x ∈ ns := (List.mem_filter.mp (List.mem_of_getElem? gx)).1
        have lx := ok.name x mx
        have e4 : ("    " : Str).length = 4 := by decide +kernel
        refine ⟨.str x, rfl, "    ", x, rfl, rfl, sz (by omega), kk _ _ (fun _ _ e => e) fun x' g' => ?_⟩
        rw [gx] at g'
        cases g'
        rfl
      · have ey : ys = ((idleN ns lk).map idleRow).map V.str := by
          rw [List.map_map]
          exact map_of (by rw [hly, List.length_map]) fun j y hy x hx => hR j y hy x hx
        refine ⟨"had no tests:", D2, (idleN ns lk).map idleRow, rfl, by decide +kernel, ey ▸ eL, by rw [List.length_map]; omega, fun H5 M s5 nM eM => ?_⟩
        exact k H5 M (sH.trans (s4.trans s5)) ((sH.trans s4).free nM) eM
def sp_passed_lines : Sp := fun vs H Q _ => ∃ (d : Addr) (ns : List Str) (lk : Str → T3), vs = [.ref d] ∧ SumAt H d ns lk ∧ NmOk ns lk ∧ ∀ (H' : Hp) (L : Addr), Same H H' → H L = none → H' L = some (.lst ((goodR ns lk).map V.str)) → Q (.ref L) H'
theorem ok_passed_lines {f : Addr} {fd : FuncData} {dvs : List V} (F : Fn K "passed_lines" s_passed_lines dvs f fd) (O_headed : Own P w K mg base "headed" 2 ["head", "lines"] [] (sp_headed)) (O_passed_line : Own P w K mg base "passed_line" 1 ["name", "tried"] [] (sp_passed_line)) {t_FAILED : Tok} (c_FAILED : mg "FAILED" = some (.int 0 t_FAILED)) {t_TRIED : Tok} (c_TRIED : mg "TRIED" = some (.int 1 t_TRIED)) : FnOk P w K mg base CX0 3 f fd ["counts"] (sp_passed_lines) := by
  refine Fn.okN F sc_passed_lines (fun vs H Q E h => ?_) (fun cdv A outer s H vs Q E hr h => ?_)
  · obtain ⟨_, _, _, rfl, _⟩ := h
    rfl
  · obtain ⟨d, ns, lk, rfl, hd, ok, k⟩ := h
    refine ⟨_, (pss_cons (ps_lock (ps_setLc (i := 1) (own := [("name", 2)]) (g := gName 2) (by rfl) sc_passed_lines.nd rfl rfl (sw_true rfl rfl rfl (by decide +kernel)) (pi_keys (pv 0)) (blkOk_by (own := [("name", 2)]) (N := ["counts", "items", "name"]) (sc := defScope s_passed_lines) (by decide +kernel)) (fun _ _ _ _ _ => (pg_name (i := 2) sc_passed_lines.nd rfl (.inl rfl))) (fun _ _ _ _ _ => (pts_one (PW.pt (pw_and (pt_cmpR op_gt (pe_ix (ix_tupK (K' := K) rfl) (pe_dget (hu_of hr) (pv 0) (pv 2) (fun _ _ => rfl)) (pe_glob (v := .int 1) rfl c_TRIED ⟨_, rfl⟩) (fun _ _ => rfl)) pe_int (nomark _)) (pw_and1 (pt_cmpR op_eq (pe_ix (ix_tupK (K' := K) rfl) (pe_dget (hu_of hr) (pv 0) (pv 2) (fun _ _ => rfl)) (pe_glob (v := .int 0) rfl c_FAILED ⟨_, rfl⟩) (fun _ _ => rfl)) pe_int (nomark _))))))) (fun _ _ _ _ _ => (pv 2))))
      (pss_one (ps_ret (pe_own O_headed (hr.mono (by decide)) (by rfl) (pa_cons pe_str (pa_cons (pe_lc (own := [("name", 2)]) (g := gName 2) (tt := tYes) (by rfl) sc_passed_lines.nd (pi_list (pv 1)) (blkOk_by (own := [("name", 2)]) (N := ["counts", "items", "name"]) (sc := defScope s_passed_lines) (by decide +kernel)) (fun _ _ _ _ _ => (pg_name (i := 2) sc_passed_lines.nd rfl (.inl rfl))) (fun _ _ _ _ _ => pts_nil) (fun _ _ _ _ _ => (pe_own O_passed_line (hr.mono (by decide)) (by rfl) (pa_cons (pv 2) (pa_cons (pe_ix (ix_tupK (K' := K) rfl) (pe_dget (hu_of hr) (pv 0) (pv 2) (fun _ _ => rfl)) (pe_glob (v := .int 1) rfl c_TRIED ⟨_, rfl⟩) (fun _ _ => rfl)) pa_nil))))) pa_nil)))))), ?_⟩
    obtain ⟨kvs, hd, hc⟩ := hd
    have hkeys : kvs.map (·.1) = ns.map Sum.inr := by
      rw [cnt_keys hc, items_names]
    have hlen : kvs.length = ns.length := by
      rw [cnt_len hc]
      exact List.length_map _
    have hlt := ok.len
    refine ⟨d, .dK kvs, hd, trivial, fun od => ⟨.ref d, rfl, d, od, rfl, .inl ⟨kvs, upd_same, fun D nD => ?_⟩⟩⟩
    have nD1 : H D = none := by
      by_cases e : D = d
      · rw [e, upd_same] at nD
        cases nD
      · rwa [upd_ne e] at nD
    have dD : d ≠ D := ne_of_none hd nD1
    refine lc_keysF (keyP fun x => decide (0 < (lk x).2.1) && ((lk x).1 == 0)) upd_same nD (small_line (by omega)) (fun _ => rfl) (fun _ => rfl) (fun i kk v H2 Qb hk s2 kq => ?_) fun H2 s2 _ eD => ?_
    · have gi : (kvs.map (·.1))[i]? = some kk := by rw [List.getElem?_map, hk]; rfl
      rw [hkeys, List.getElem?_map] at gi
      obtain ⟨x, gx, rfl⟩ := Option.map_eq_some_iff.mp gi
      obtain ⟨t, hv, ht⟩ := cnt_at hc (List.mem_of_getElem? gx)
      have td : t ≠ d := fun z => by
        rw [z, hd] at ht
        cases ht
      have ht2 : H2 t = some (tri (lk x)) := s2 _ _ (by rw [upd_ne td]; exact ht)
      have dg : DGet H2 d (.str x) (some (.ref t)) := .inl ⟨kvs, Sum.inr x, .inr ⟨od, s2 _ _ upd_same⟩, rfl, hv.symm⟩
      have kq : Qb (decide (0 < (lk x).2.1) && ((lk x).1 == 0)) H2 := kq
      refine ⟨.ref d, rfl, .str x, rfl, d, .ref t, rfl, dg, t, _, 1, .int ((lk x).2.1 : Nat), rfl, rfl, SqT.of ht2, rfl, _, _, rfl, rfl, _, rfl, ?_⟩
      have e1 : decide ((((lk x).2.1 : Nat) : Int) > 0) = decide (0 < (lk x).2.1) := by
        rw [Bool.eq_iff_iff, decide_eq_true_iff, decide_eq_true_iff]
        omega
      rw [e1]
      cases h1 : decide (0 < (lk x).2.1) with
      | false =>
        rw [h1] at kq
        exact iteF kq
      | true =>
        rw [h1] at kq
        refine iteT ⟨.ref d, rfl, .str x, rfl, d, .ref t, rfl, dg, t, _, 0, .int ((lk x).1 : Nat), rfl, rfl, SqT.of ht2, rfl, rfl, _, rfl, ?_⟩
        have e : decide (V.int (((lk x).1 : Nat) : Int) = V.int 0) = ((lk x).1 == 0) := by
          rw [Bool.eq_iff_iff, decide_eq_true_iff, beq_iff_eq]
          exact ⟨fun z => by have := V.int.inj z; omega, fun z => by rw [z]; rfl⟩
        rw [e]
        exact kq
    · rw [keys_filter _ hkeys] at eD
      have sH := lock_same hd s2
      refine ⟨s2 _ _ upd_same, ?_⟩
      have eD3 : (upd H2 d (.dK kvs)) D = some (.lst ((goodN ns lk).map V.str)) := by
        rw [upd_ne dD.symm]
        exact eD
      generalize upd H2 d (.dK kvs) = H3 at sH eD3 ⊢
      refine ⟨.ref D, rfl, D, rfl, ⟨_, SqL.of eD3⟩, fun D2 nD2 => ?_⟩
      have lf : (goodN ns lk).length ≤ 60 := Nat.le_trans (List.length_filter_le _ _) hlt
      refine lc_rel (K := K) (a := D) (xs := (goodN ns lk).map V.str) (fun i H y => ∀ x, (goodN ns lk)[i]? = some x → y = .str (goodRow x (lk x).2.1)) (fun s h => h) (SqL.of eD3) nD2 (by rw [List.length_map]; exact small_line (by omega)) (fun _ => rfl) (fun i v H4 Qy hx s4 kk => ?_) fun H4 ys s4 eL hly hR => ?_
      · obtain ⟨x, rfl, gx⟩ := str_at hx
        have mx : x ∈ ns := (List.mem_filter.mp (List.mem_of_getElem? gx)).1
        have lx := ok.name x mx
        obtain ⟨t, hv, ht⟩ := cnt_at hc mx
        have ht4 := s4 _ _ (sH _ _ ht)
        have hd4 := s4 _ _ (sH _ _ hd)
        have dg : DGet H4 d (.str x) (some (.ref t)) := by
          rw [← hv]
          exact DGet.k (k := Sum.inr x) hd4
        refine ⟨.str x, rfl, .ref d, rfl, .str x, rfl, d, .ref t, rfl, dg, t, _, 1, .int ((lk x).2.1 : Nat), rfl, rfl, SqT.of ht4, rfl, x, (lk x).2.1, rfl, lx, (ok.one x mx).2.1, kk _ _ (fun _ _ e => e) fun x' g' => ?_⟩
        rw [gx] at g'
        cases g'
        rfl
      · have ey : ys = ((goodN ns lk).map fun x => goodRow x (lk x).2.1).map V.str := by
          rw [List.map_map]
          exact map_of (by rw [hly, List.length_map]) fun j y hy x hx => hR j y hy x hx
        refine ⟨"passed all tests:", D2, (goodN ns lk).map (fun x => goodRow x (lk x).2.1), rfl, by decide +kernel, ey ▸ eL, by rw [List.length_map]; omega, fun H5 M s5 nM eM => ?_⟩
        exact k H5 M (sH.trans (s4.trans s5)) ((sH.trans s4).free nM) eM
def sp_failed_lines : Sp := fun vs H Q _ => ∃ (d : Addr) (ns : List Str) (lk : Str → T3), vs = [.ref d] ∧ SumAt H d ns lk ∧ NmOk ns lk ∧ ∀ (H' : Hp) (L : Addr), Same H H' → H L = none → H' L = some (.lst ((badR ns lk).map V.str)) → Q (.ref L) H'
theorem ok_failed_lines {f : Addr} {fd : FuncData} {dvs : List V} (F : Fn K "failed_lines" s_failed_lines dvs f fd) (O_headed : Own P w K mg base "headed" 2 ["head", "lines"] [] (sp_headed)) (O_failed_line : Own P w K mg base "failed_line" 1 ["name", "counts"] [] (sp_failed_line)) {t_FAILED : Tok} (c_FAILED : mg "FAILED" = some (.int 0 t_FAILED)) {t_STARS : Tok} (c_STARS : mg "STARS" = some (.str "**********************************************************************\n" t_STARS)) : FnOk P w K mg base CX0 3 f fd ["counts"] (sp_failed_lines) := by
  refine Fn.okN F sc_failed_lines (fun vs H Q E h => ?_) (fun cdv A outer s H vs Q E hr h => ?_)
  · obtain ⟨_, _, _, rfl, _⟩ := h
    rfl
  · obtain ⟨d, ns, lk, rfl, hd, ok, k⟩ := h
    refine ⟨_, (pss_cons (ps_lock (ps_setLc (i := 1) (own := [("name", 3)]) (g := gName 3) (by rfl) sc_failed_lines.nd rfl rfl (sw_true rfl rfl rfl (by decide +kernel)) (pi_keys (pv 0)) (blkOk_by (own := [("name", 3)]) (N := ["counts", "items", "lines", "name"]) (sc := defScope s_failed_lines) (by decide +kernel)) (fun _ _ _ _ _ => (pg_name (i := 3) sc_failed_lines.nd rfl (.inl rfl))) (fun _ _ _ _ _ => (pts_one (pt_cmpR op_gt (pe_ix (ix_tupK (K' := K) rfl) (pe_dget (hu_of hr) (pv 0) (pv 3) (fun _ _ => rfl)) (pe_glob (v := .int 0) rfl c_FAILED ⟨_, rfl⟩) (fun _ _ => rfl)) pe_int (nomark _)))) (fun _ _ _ _ _ => (pv 3))))
      (pss_cons (ps_set (i := 2) sc_failed_lines.nd rfl (.inl rfl) (pe_own O_headed (hr.mono (by decide)) (by rfl) (pa_cons pe_str (pa_cons (pe_lc (own := [("name", 3)]) (g := gName 3) (tt := tYes) (by rfl) sc_failed_lines.nd (pi_list (pv 1)) (blkOk_by (own := [("name", 3)]) (N := ["counts", "items", "lines", "name"]) (sc := defScope s_failed_lines) (by decide +kernel)) (fun _ _ _ _ _ => (pg_name (i := 3) sc_failed_lines.nd rfl (.inl rfl))) (fun _ _ _ _ _ => pts_nil) (fun _ _ _ _ _ => (pe_own O_failed_line (hr.mono (by decide)) (by rfl) (pa_cons (pv 3) (pa_cons (pe_dget (hu_of hr) (pv 0) (pv 3) (fun _ _ => rfl)) pa_nil))))) pa_nil))))
      (pss_one (ps_ret (pe_ifExp (pt_tr (K' := K) (pv 2)) (pe_op op_cat (pe_lst (pa_cons (pe_m1 PySem.F.slot_str_removesuffix PySem.F.type_str_removesuffix mt_removesuffix (pe_glob (v := .str "**********************************************************************\n") rfl c_STARS ⟨_, rfl⟩) pe_str) pa_nil)) (pv 2)) (pe_lst pa_nil)))))), ?_⟩
    obtain ⟨kvs, hd, hc⟩ := hd
    have hkeys : kvs.map (·.1) = ns.map Sum.inr := by
      rw [cnt_keys hc, items_names]
    have hlen : kvs.length = ns.length := by
      rw [cnt_len hc]
      exact List.length_map _
    have hlt := ok.len
    refine ⟨d, .dK kvs, hd, trivial, fun od => ⟨.ref d, rfl, d, od, rfl, .inl ⟨kvs, upd_same, fun D nD => ?_⟩⟩⟩
    have nD1 : H D = none := by
      by_cases e : D = d
      · rw [e, upd_same] at nD
        cases nD
      · rwa [upd_ne e] at nD
    have dD : d ≠ D := ne_of_none hd nD1
    refine lc_keysF (keyP fun x => decide (0 < (lk x).1)) upd_same nD (small_line (by omega)) (fun _ => rfl) (fun _ => rfl) (fun i kk v H2 Qb hk s2 kq => ?_) fun H2 s2 _ eD => ?_
    · have gi : (kvs.map (·.1))[i]? = some kk := by rw [List.getElem?_map, hk]; rfl
      rw [hkeys, List.getElem?_map] at gi
      obtain ⟨x, gx, rfl⟩ := Option.map_eq_some_iff.mp gi
      obtain ⟨t, hv, ht⟩ := cnt_at hc (List.mem_of_getElem? gx)
      have td : t ≠ d := fun z => by
        rw [z, hd] at ht
        cases ht
      have ht2 : H2 t = some (tri (lk x)) := s2 _ _ (by rw [upd_ne td]; exact ht)
      have dg : DGet H2 d (.str x) (some (.ref t)) := .inl ⟨kvs, Sum.inr x, .inr ⟨od, s2 _ _ upd_same⟩, rfl, hv.symm⟩
      have kq : Qb (decide (0 < (lk x).1)) H2 := kq
      refine ⟨.ref d, rfl, .str x, rfl, d, .ref t, rfl, dg, t, _, 0, .int ((lk x).1 : Nat), rfl, rfl, SqT.of ht2, rfl, _, _, rfl, rfl, _, rfl, ?_⟩
      have e1 : decide ((((lk x).1 : Nat) : Int) > 0) = decide (0 < (lk x).1) := by
        rw [Bool.eq_iff_iff, decide_eq_true_iff, decide_eq_true_iff]
        omega
      rw [e1]
      exact kq
    · rw [keys_filter _ hkeys] at eD
      have sH := lock_same hd s2
      refine ⟨s2 _ _ upd_same, ?_⟩
      have eD3 : (upd H2 d (.dK kvs)) D = some (.lst ((badN ns lk).map V.str)) := by
        rw [upd_ne dD.symm]
        exact eD
      generalize upd H2 d (.dK kvs) = H3 at sH eD3 ⊢
      refine ⟨.ref D, rfl, D, rfl, ⟨_, SqL.of eD3⟩, fun D2 nD2 => ?_⟩
      have lf : (badN ns lk).length ≤ 60 := Nat.le_trans (List.length_filter_le _ _) hlt
      refine lc_rel (K := K) (a := D) (xs := (badN ns lk).map V.str) (fun i H y => ∀ x, (badN ns lk)[i]? = some x → y = .str (badRow x (lk x))) (fun s h => h) (SqL.of eD3) nD2 (by rw [List.length_map]; exact small_line (by omega)) (fun _ => rfl) (fun i v H4 Qy hx s4 kk => ?_) fun H4 ys s4 eL hly hR => ?_
      · obtain ⟨x, rfl, gx⟩ := str_at hx
        have mx : x ∈ ns := (List.mem_filter.mp (List.mem_of_getElem? gx)).1
        have lx := ok.name x mx
        obtain ⟨t, hv, ht⟩ := cnt_at hc mx
        have ht4 := s4 _ _ (sH _ _ ht)
        have hd4 := s4 _ _ (sH _ _ hd)
        have dg : DGet H4 d (.str x) (some (.ref t)) := by
          rw [← hv]
          exact DGet.k (k := Sum.inr x) hd4
        refine ⟨.str x, rfl, .ref d, rfl, .str x, rfl, d, .ref t, rfl, dg, x, t, lk x, rfl, lx, ht4, (ok.one x mx).1, (ok.one x mx).2.1, kk _ _ (fun _ _ e => e) fun x' g' => ?_⟩
        rw [gx] at g'
        cases g'
        rfl
      · have ey : ys = ((badN ns lk).map fun x => badRow x (lk x)).map V.str := by
          rw [List.map_map]
          exact map_of (by rw [hly, List.length_map]) fun j y hy x hx => hR j y hy x hx
        refine ⟨"had failures:", D2, (badN ns lk).map (fun x => badRow x (lk x)), rfl, by decide +kernel, ey ▸ eL, by rw [List.length_map]; omega, fun H5 M s5 nM eM => ?_⟩
        unfold badR at k
        dsimp only at k
        have lm : (headT "had failures:" ((badN ns lk).map fun x => badRow x (lk x))).length ≤ 100 := by
          unfold headT
          split
          · exact Nat.zero_le _
          · rw [List.length_cons, List.length_map]
            omega
        generalize headT "had failures:" ((badN ns lk).map fun x => badRow x (lk x)) = rows at k eM lm
        refine ⟨.ref M, rfl, !rows.isEmpty, .inl ⟨_, SqL.of eM, by rw [List.isEmpty_map]⟩, ?_⟩
        have s15 := sH.trans (s4.trans s5)
        cases e : rows.isEmpty with
        | true =>
          rw [e, if_pos rfl] at k
          exact iteF ⟨by decide, fun X nX => k _ X (s15.trans (same_new nX)) (s15.free nX) upd_same⟩
        | false =>
          rw [e, if_neg Bool.false_ne_true] at k
          have l1 : ("**********************************************************************\n" : Str).length = 71 := by decide +kernel
          refine iteT ⟨⟨_, rfl⟩, _, _, rfl, rfl, sz (by omega), (show 1 ≤ sizeLine by decide), fun X nX => ?_⟩
          have sX := same_new (o := .lst [V.str starS]) nX
          refine ⟨.ref M, rfl, X, M, _, _, rfl, rfl, upd_same, sX _ _ eM, (by rw [List.length_map]; exact sz (show 1 + rows.length ≤ _ by omega)), fun Y nY => ?_⟩
          refine k _ Y (s15.trans (sX.trans (same_new nY))) ((s15.trans sX).free nY) ?_
          rw [upd_same]
          rfl
end

/-! ### the last rows, and all of them -/
theorem cnt_vals {H : Hp} : ∀ {kvs : List (Key × V)} {items : List (Str × T3)}, CntAt H kvs items → Paired (TriAt H) (kvs.map (·.2)) (items.map (·.2))
  | _, _, .nil => .nil
  | _, _, .cons a r => .cons a.2 (cnt_vals r)
theorem items_vals (ns : List Str) (lk : Str → T3) : (itemsOf ns lk).map (·.2) = ns.map lk := by
  unfold itemsOf
  rw [List.map_map]
  rfl
theorem headT_len (h : Str) (rows : List Str) : (headT h rows).length ≤ rows.length + 1 := by
  unfold headT
  split
  · exact Nat.zero_le _
  · exact Nat.le_refl _
theorem nat_zero {n : Nat} : (((n : Nat) : Int) != 0) = !(decide (n = 0)) := by
  rw [Bool.eq_iff_iff, bne_iff_ne, Bool.not_eq_true', decide_eq_false_iff_not]
  omega
section
variable {P : Program} {w : World} {K : PySem.W.Frag} {mg : Str → Option Value} {base : Heap}
def sp_total_lines : Sp := fun vs H Q _ => ∃ (d : Addr) (ns : List Str) (lk : Str → T3), vs = [.ref d] ∧ SumAt H d ns lk ∧ NmOk ns lk ∧ ∀ (H' : Hp) (L : Addr), Same H H' → H L = none → H' L = some (.lst ((totR ns.length (sumT3 (ns.map lk))).map V.str)) → Q (.ref L) H'
theorem ok_total_lines {f : Addr} {fd : FuncData} {dvs : List V} (F : Fn K "total_lines" s_total_lines dvs f fd) (O_summed : Own P w K mg base "summed" 1 ["many"] [] (sp_summed)) (O_number_of : Own P w K mg base "number_of" 1 ["number", "word"] [] (sp_number_of)) (m_len : mg "len" = none) (m_list : mg "list" = none) : FnOk P w K mg base CX0 2 f fd ["counts"] (sp_total_lines) := by
  refine Fn.okN F sc_total_lines (fun vs H Q E h => ?_) (fun cdv A outer s H vs Q E hr h => ?_)
  · obtain ⟨_, _, _, rfl, _⟩ := h
    rfl
  · obtain ⟨d, ns, lk, rfl, hd, ok, k⟩ := h
    refine ⟨_, (pss_cons (ps_asg (pe_own O_summed (hr.mono (by decide)) (by rfl) (pa_cons (pe_listVals rfl (pv 0) (by rfl) m_list (by decide +kernel)) pa_nil)) (pg_tup rfl (pgs_cons (pg_name (i := 1) sc_total_lines.nd rfl (.inl rfl)) (pgs_cons (pg_name (i := 2) sc_total_lines.nd rfl (.inl rfl)) (pgs_cons (pg_name (i := 3) sc_total_lines.nd rfl (.inl rfl)) pgs_nil)))))
      (pss_cons (ps_set (i := 4) sc_total_lines.nd rfl (.inl rfl) (pe_joined (PJ.cons (pe_fmt (pe_own O_number_of (hr.mono (by decide)) (by rfl) (pa_cons (pv 2) (pa_cons pe_str pa_nil)))) (PJ.cons pe_str (PJ.cons (pe_fmt (pe_own O_number_of (hr.mono (by decide)) (by rfl) (pa_cons (pe_callB call_lenD (by rfl) m_len PySem.boot_len (pa_cons (pv 0) pa_nil)) (pa_cons pe_str pa_nil)))) (PJ.cons pe_str PJ.nil))))))
      (pss_one (ps_ret (pe_lst (pa_cons (pv 4) (pa_cons (pe_ifExp (pt_tr (K' := K) (pv 1)) (pe_joined (PJ.cons (pe_fmt (pe_op op_sub (pv 2) (pv 1))) (PJ.cons pe_str (PJ.cons (pe_fmt (pv 1)) (PJ.cons pe_str PJ.nil))))) (pe_joined (PJ.cons (pe_fmt (pv 2)) (PJ.cons pe_str PJ.nil)))) pa_nil))))))), ?_⟩
    obtain ⟨kvs, hd, hc⟩ := hd
    have hlen : kvs.length = ns.length := by
      rw [cnt_len hc]
      exact List.length_map _
    have hlt := ok.len
    have hv := cnt_vals hc
    rw [items_vals] at hv
    obtain ⟨b1, b2, b3, b4⟩ := ok.all
    refine ⟨.ref d, rfl, d, kvs, rfl, hd, fun L nL => ?_⟩
    have sL := same_new (o := .lst (kvs.map (·.2))) nL
    refine ⟨L, kvs.map (·.2), ns.map lk, rfl, upd_same, paired_imp (fun _ _ h => h.same sL) hv, by rw [List.length_map]; omega, fun H2 q s2 nq eq => ?_⟩
    generalize sumT3 (ns.map lk) = c at b1 b2 b3 b4 k eq ⊢
    have s12 := sL.trans s2
    refine ⟨q, _, rfl, SqT.of eq, rfl, _, _, rfl, _, _, rfl, _, _, rfl, rfl, ?_⟩
    have l1 := @numT_len c.2.1 "test" b2
    have l2 := @numT_len ns.length "item" (by omega)
    have e1 : ("test" : Str).length = 4 := by decide +kernel
    have e2 : ("item" : Str).length = 4 := by decide +kernel
    have e3 : (" in " : Str).length = 4 := by decide +kernel
    have e4 : ("." : Str).length = 1 := by decide +kernel
    have l0 : Str.empty.length = 0 := rfl
    refine ⟨.int (c.2.1 : Nat), rfl, c.2.1, "test", rfl, b2, by omega, .inl ⟨_, rfl, sz (by omega), _, rfl, sz (by rw [len_app]; omega), _, rfl, sz (by rw [len_app, len_app]; omega), .ref d, rfl, d, kvs, rfl, s12 _ _ hd, kvs.length, "item", rfl, by omega, by omega, .inl ⟨_, rfl, sz (by rw [hlen]; omega), _, rfl, sz (by simp only [len_app, hlen]; omega), _, rfl, sz (by simp only [len_app, hlen]; omega), ?_⟩⟩⟩
    rw [none_app, hlen]
    unfold totR at k
    refine ⟨.str _, rfl, .int (c.1 : Nat), rfl, _, rfl, ?_⟩
    rw [nat_zero]
    have lt := natS_len b2
    have l3 := @natS_len (c.2.1 - c.1) (by omega)
    have l4 := natS_len b1
    have e5 : (" passed." : Str).length = 8 := by decide +kernel
    have e6 : (" passed and " : Str).length = 12 := by decide +kernel
    have e7 : (" failed." : Str).length = 8 := by decide +kernel
    by_cases hz : c.1 = 0
    · rw [if_pos hz] at k
      rw [decide_eq_true hz]
      refine iteF ⟨.int (c.2.1 : Nat), rfl, .inr ⟨_, rfl, log_ok b2, natS c.2.1, rfl, sz (by rw [len_app]; omega), _, rfl, sz (by rw [len_app, len_app]; omega), (show 2 ≤ sizeLine by decide), fun M nM => ?_⟩⟩
      refine k _ M (s12.trans (same_new nM)) (s12.free nM) ?_
      rw [upd_same, none_app]
      rfl
    · rw [if_neg hz] at k
      rw [decide_eq_false hz]
      have ed : ((c.2.1 : Nat) : Int) - ((c.1 : Nat) : Int) = (((c.2.1 - c.1 : Nat)) : Int) := by omega
      refine iteT ⟨.int (c.2.1 : Nat), rfl, .int (c.1 : Nat), rfl, _, _, rfl, rfl, .inr ⟨(((c.2.1 - c.1 : Nat)) : Int), congrArg V.int ed, log_ok (by omega), natS (c.2.1 - c.1), rfl, sz (by rw [len_app]; omega), _, rfl, sz (by rw [len_app, len_app]; omega), .int (c.1 : Nat), rfl, .inr ⟨_, rfl, log_ok b1, natS c.1, rfl, sz (by simp only [len_app]; omega), _, rfl, sz (by simp only [len_app]; omega), (show 2 ≤ sizeLine by decide), fun M nM => ?_⟩⟩⟩
      refine k _ M (s12.trans (same_new nM)) (s12.free nM) ?_
      rw [upd_same, none_app]
      rfl
def sp_last_lines : Sp := fun vs H Q _ => ∃ (d : Addr) (ns : List Str) (lk : Str → T3) (b : Bool), vs = [.ref d, .bl b] ∧ SumAt H d ns lk ∧ NmOk ns lk ∧ ∀ (H' : Hp) (L : Addr), Same H H' → H L = none → H' L = some (.lst ((lastR b (sumT3 (ns.map lk))).map V.str)) → Q (.ref L) H'
theorem ok_last_lines {f : Addr} {fd : FuncData} {dvs : List V} (F : Fn K "last_lines" s_last_lines dvs f fd) (O_summed : Own P w K mg base "summed" 1 ["many"] [] (sp_summed)) (O_number_of : Own P w K mg base "number_of" 1 ["number", "word"] [] (sp_number_of)) (m_list : mg "list" = none) : FnOk P w K mg base CX0 2 f fd ["counts", "verbose"] (sp_last_lines) := by
  refine Fn.okN F sc_last_lines (fun vs H Q E h => ?_) (fun cdv A outer s H vs Q E hr h => ?_)
  · obtain ⟨_, _, _, _, rfl, _⟩ := h
    rfl
  · obtain ⟨d, ns, lk, b, rfl, hd, ok, k⟩ := h
    refine ⟨_, (pss_cons (ps_asg (pe_own O_summed (hr.mono (by decide)) (by rfl) (pa_cons (pe_listVals rfl (pv 0) (by rfl) m_list (by decide +kernel)) pa_nil)) (pg_tup rfl (pgs_cons (pg_name (i := 2) sc_last_lines.nd rfl (.inl rfl)) (pgs_cons (pg_name (i := 3) sc_last_lines.nd rfl (.inl rfl)) (pgs_cons (pg_name (i := 4) sc_last_lines.nd rfl (.inl rfl)) pgs_nil)))))
      (pss_cons (ps_if (pt_not (pt_tr (K' := K) (pv 2)))
          (pss_one (ps_ret (pe_ifExp (pt_tr (K' := K) (pv 1)) (pe_lst (pa_cons pe_str pa_nil)) (pe_lst pa_nil))))
          pss_nil)
      (pss_cons (ps_set (i := 5) sc_last_lines.nd rfl (.inl rfl) (pe_ifExp (pt_tr (K' := K) (pv 4)) (pe_joined (PJ.cons pe_str (PJ.cons (pe_fmt (pe_own O_number_of (hr.mono (by decide)) (by rfl) (pa_cons (pv 4) (pa_cons pe_str pa_nil)))) PJ.nil))) pe_str))
      (pss_one (ps_ret (pe_lst (pa_cons (pe_joined (PJ.cons pe_str (PJ.cons (pe_fmt (pe_own O_number_of (hr.mono (by decide)) (by rfl) (pa_cons (pv 2) (pa_cons pe_str pa_nil)))) (PJ.cons (pe_fmt (pv 5)) (PJ.cons pe_str PJ.nil))))) pa_nil))))))), ?_⟩
    obtain ⟨kvs, hd, hc⟩ := hd
    have hlen : kvs.length = ns.length := by
      rw [cnt_len hc]
      exact List.length_map _
    have hlt := ok.len
    have hv := cnt_vals hc
    rw [items_vals] at hv
    obtain ⟨b1, b2, b3, b4⟩ := ok.all
    refine ⟨.ref d, rfl, d, kvs, rfl, hd, fun L nL => ?_⟩
    have sL := same_new (o := .lst (kvs.map (·.2))) nL
    refine ⟨L, kvs.map (·.2), ns.map lk, rfl, upd_same, paired_imp (fun _ _ h => h.same sL) hv, by rw [List.length_map]; omega, fun H2 q s2 nq eq => ?_⟩
    generalize sumT3 (ns.map lk) = c at b1 b2 b3 b4 k eq ⊢
    have s12 := sL.trans s2
    refine ⟨q, _, rfl, SqT.of eq, rfl, _, _, rfl, _, _, rfl, _, _, rfl, rfl, ?_⟩
    unfold lastR at k
    refine ⟨.int (c.1 : Nat), rfl, _, rfl, ?_⟩
    rw [nat_zero]
    by_cases hz : c.1 = 0
    · rw [if_pos hz] at k
      rw [decide_eq_true hz]
      refine iteT ⟨.bl b, rfl, _, rfl, ?_⟩
      cases b with
      | true => exact iteT ⟨(show 1 ≤ sizeLine by decide), fun M nM => k _ M (s12.trans (same_new nM)) (s12.free nM) upd_same⟩
      | false => exact iteF ⟨by decide, fun M nM => k _ M (s12.trans (same_new nM)) (s12.free nM) upd_same⟩
    · rw [if_neg hz] at k
      rw [decide_eq_false hz]
      refine iteF ⟨.int (c.2.2 : Nat), rfl, _, rfl, ?_⟩
      rw [nat_zero]
      have l1 := @numT_len c.1 "failure" b1
      have l2 := @numT_len c.2.2 "skipped test" b3
      have e1 : ("failure" : Str).length = 7 := by decide +kernel
      have e2 : ("skipped test" : Str).length = 12 := by decide +kernel
      have e3 : (" and " : Str).length = 5 := by decide +kernel
      have e4 : ("." : Str).length = 1 := by decide +kernel
      have e5 : ("***Test Failed*** " : Str).length = 18 := by decide +kernel
      have e6 : ("" : Str).length = 0 := by decide +kernel
      have l0 : Str.empty.length = 0 := rfl
      by_cases hs : c.2.2 = 0
      · rw [if_pos hs] at k
        rw [decide_eq_true hs]
        refine iteF ⟨_, rfl, sz (by rw [len_app]; omega), .int (c.1 : Nat), rfl, c.1, "failure", rfl, b1, by omega, .inl ⟨_, rfl, sz (by omega), _, rfl, sz (by simp only [len_app]; omega), .str _, rfl, .inl ⟨"", rfl, sz (by omega), _, rfl, sz (by simp only [len_app]; omega), _, rfl, sz (by simp only [len_app]; omega), (show 1 ≤ sizeLine by decide), fun M nM => ?_⟩⟩⟩
        refine k _ M (s12.trans (same_new nM)) (s12.free nM) ?_
        rw [upd_same, none_app]
        rfl
      · rw [if_neg hs] at k
        rw [decide_eq_false hs]
        refine iteT ⟨_, rfl, sz (by rw [len_app]; omega), .int (c.2.2 : Nat), rfl, c.2.2, "skipped test", rfl, b3, by omega, .inl ⟨_, rfl, sz (by omega), _, rfl, sz (by simp only [len_app]; omega), ?_⟩⟩
        rw [none_app]
        refine ⟨_, rfl, sz (by rw [len_app]; omega), .int (c.1 : Nat), rfl, c.1, "failure", rfl, b1, by omega, .inl ⟨_, rfl, sz (by omega), _, rfl, sz (by simp only [len_app]; omega), .str _, rfl, .inl ⟨_, rfl, sz (by simp only [len_app]; omega), _, rfl, sz (by simp only [len_app]; omega), _, rfl, sz (by simp only [len_app]; omega), (show 1 ≤ sizeLine by decide), fun M nM => ?_⟩⟩⟩
        refine k _ M (s12.trans (same_new nM)) (s12.free nM) ?_
        rw [upd_same, none_app]
        rfl
theorem rows_len {ns : List Str} {lk : Str → T3} (ok : NmOk ns lk) : (idleR ns lk).length ≤ 61 ∧ (goodR ns lk).length ≤ 61 ∧ (badR ns lk).length ≤ 62 := by
  have hlt := ok.len
  have h1 := headT_len "had no tests:" ((idleN ns lk).map idleRow)
  have h2 := headT_len "passed all tests:" ((goodN ns lk).map fun x => goodRow x (lk x).2.1)
  have h3 := headT_len "had failures:" ((badN ns lk).map fun x => badRow x (lk x))
  have f1 : (idleN ns lk).length ≤ ns.length := List.length_filter_le _ _
  have f2 : (goodN ns lk).length ≤ ns.length := List.length_filter_le _ _
  have f3 : (badN ns lk).length ≤ ns.length := List.length_filter_le _ _
  rw [List.length_map] at h1 h2 h3
  refine ⟨?_, ?_, ?_⟩
  · unfold idleR
    omega
  · unfold goodR
    omega
  · unfold badR
    dsimp only
    split
    · exact Nat.zero_le _
    · rw [List.length_cons]
      omega
theorem head_mem {h : Str} {rows : List Str} {n : Nat} (hn : rows.length < 1000000) (hh : h.length ≤ 100) (h1 : ∀ r ∈ rows, r.length ≤ n) (hn2 : 5000 ≤ n) : ∀ r ∈ headT h rows, r.length ≤ n := by
  intro r hr
  unfold headT at hr
  split at hr
  · cases hr
  · rcases List.mem_cons.mp hr with e | e
    · rw [e, len_app, len_app]
      have l1 := @numT_len rows.length "item" hn
      have e1 : ("item" : Str).length = 4 := by decide +kernel
      have e2 : (" " : Str).length = 1 := by decide +kernel
      omega
    · exact h1 r e
theorem rows_small {ns : List Str} {lk : Str → T3} (ok : NmOk ns lk) (b : Bool) : ∀ r ∈ sumR ns lk b, r.length ≤ 9000 := by
  have hlt := ok.len
  have f1 : (idleN ns lk).length ≤ ns.length := List.length_filter_le _ _
  have f2 : (goodN ns lk).length ≤ ns.length := List.length_filter_le _ _
  have f3 : (badN ns lk).length ≤ ns.length := List.length_filter_le _ _
  obtain ⟨b1, b2, b3, b4⟩ := ok.all
  have e4 : ("    " : Str).length = 4 := by decide +kernel
  have e1 : (" " : Str).length = 1 := by decide +kernel
  have e2 : (" in " : Str).length = 4 := by decide +kernel
  have e3 : (" of " : Str).length = 4 := by decide +kernel
  have e5 : ("test" : Str).length = 4 := by decide +kernel
  have e6 : ("tests" : Str).length = 5 := by decide +kernel
  have e7 : ("item" : Str).length = 4 := by decide +kernel
  have e8 : ("." : Str).length = 1 := by decide +kernel
  have i1 : ∀ r ∈ idleR ns lk, r.length ≤ 9000 := by
    refine head_mem (by rw [List.length_map]; omega) (by decide +kernel) (fun r hr => ?_) (by decide)
    obtain ⟨x, hx, rfl⟩ := List.mem_map.mp hr
    have := ok.name x (List.mem_filter.mp hx).1
    unfold idleRow
    rw [len_app]
    omega
  have i2 : ∀ r ∈ goodR ns lk, r.length ≤ 9000 := by
    refine head_mem (by rw [List.length_map]; omega) (by decide +kernel) (fun r hr => ?_) (by decide)
    obtain ⟨x, hx, rfl⟩ := List.mem_map.mp hr
    have h1 := ok.name x (List.mem_filter.mp hx).1
    have h2 := (spec3_at (ok.one x (List.mem_filter.mp hx).1).2.1).2
    have h3 : (if (lk x).2.1 = 1 then ("test" : Str) else "tests").length ≤ 5 := by
      split
      · omega
      · omega
    unfold goodRow rj natS
    simp only [len_app]
    omega
  have i3 : ∀ r ∈ badR ns lk, r.length ≤ 9000 := by
    intro r hr
    unfold badR at hr
    dsimp only at hr
    split at hr
    · cases hr
    · rcases List.mem_cons.mp hr with e | e
      · rw [e]
        decide +kernel
      · refine head_mem (by rw [List.length_map]; omega) (by decide +kernel) (fun r hr => ?_) (by decide) r e
        obtain ⟨x, hx, rfl⟩ := List.mem_map.mp hr
        have h1 := ok.name x (List.mem_filter.mp hx).1
        have h2 := (spec3_at (ok.one x (List.mem_filter.mp hx).1).1).2
        have h3 := (spec3_at (ok.one x (List.mem_filter.mp hx).1).2.1).2
        unfold badRow rj natS
        simp only [len_app]
        omega
  have lt := natS_len b2
  have l3 := @natS_len ((sumT3 (ns.map lk)).2.1 - (sumT3 (ns.map lk)).1) (by omega)
  have l4 := natS_len b1
  have i4 : ∀ r ∈ totR ns.length (sumT3 (ns.map lk)), r.length ≤ 9000 := by
    intro r hr
    have l1 := @numT_len (sumT3 (ns.map lk)).2.1 "test" b2
    have l2 := @numT_len ns.length "item" (by omega)
    have e5' : (" passed." : Str).length = 8 := by decide +kernel
    have e6' : (" passed and " : Str).length = 12 := by decide +kernel
    have e7' : (" failed." : Str).length = 8 := by decide +kernel
    unfold totR at hr
    rcases List.mem_cons.mp hr with e | e
    · rw [e]
      simp only [len_app]
      omega
    · rw [List.mem_singleton.mp e]
      split
      · rw [len_app]
        omega
      · simp only [len_app]
        omega
  have i5 : ∀ r ∈ lastR b (sumT3 (ns.map lk)), r.length ≤ 9000 := by
    intro r hr
    have l1 := @numT_len (sumT3 (ns.map lk)).1 "failure" b1
    have l2 := @numT_len (sumT3 (ns.map lk)).2.2 "skipped test" b3
    have e1' : ("failure" : Str).length = 7 := by decide +kernel
    have e2' : ("skipped test" : Str).length = 12 := by decide +kernel
    have e3' : (" and " : Str).length = 5 := by decide +kernel
    have e5' : ("***Test Failed*** " : Str).length = 18 := by decide +kernel
    have e6' : ("" : Str).length = 0 := by decide +kernel
    unfold lastR at hr
    split at hr
    · split at hr
      · rw [List.mem_singleton.mp hr]
        decide +kernel
      · cases hr
    · rw [List.mem_singleton.mp hr]
      split
      · simp only [len_app]
        omega
      · simp only [len_app]
        omega
  intro r hr
  unfold sumR at hr
  rcases List.mem_append.mp hr with h | h
  · split at h
    · rcases List.mem_append.mp h with h | h
      · rcases List.mem_append.mp h with h | h
        · rcases List.mem_append.mp h with h | h
          · exact i1 r h
          · exact i2 r h
        · exact i3 r h
      · exact i4 r h
    · exact i3 r h
  · exact i5 r h
theorem sumR_len {ns : List Str} {lk : Str → T3} (ok : NmOk ns lk) (b : Bool) : (sumR ns lk b).length ≤ 190 := by
  obtain ⟨h1, h2, h3⟩ := rows_len ok
  have h5 : (lastR b (sumT3 (ns.map lk))).length ≤ 1 := by
    unfold lastR
    split
    · split <;> decide
    · exact Nat.le_refl _
  have h4 : (totR ns.length (sumT3 (ns.map lk))).length = 2 := rfl
  unfold sumR
  rw [List.length_append]
  split
  · simp only [List.length_append]
    omega
  · omega
theorem sum_bound : ∀ {rs : List Str} {n : Nat}, (∀ r ∈ rs, r.length ≤ n) → (rs.map (·.length)).sum ≤ n * rs.length
  | [], _, _ => Nat.zero_le _
  | r :: rs, n, h => by
    have h1 := h r (List.mem_cons_self ..)
    have h2 := @sum_bound rs n fun x hx => h x (List.mem_cons_of_mem _ hx)
    rw [List.map_cons, List.sum_cons, List.length_cons, Nat.mul_succ]
    omega
def sp_summary_of : Sp := fun vs H Q _ => ∃ (d : Addr) (ns : List Str) (lk : Str → T3) (b : Bool), vs = [.ref d, .bl b] ∧ SumAt H d ns lk ∧ NmOk ns lk ∧ ∀ H' : Hp, Same H H' → Q (.str (sumS ns lk b)) H'
theorem SumAt.same {H H' : Hp} (s : Same H H') {d : Addr} {ns : List Str} {lk : Str → T3} (h : SumAt H d ns lk) : SumAt H' d ns lk := let ⟨kvs, a, b⟩ := h; ⟨kvs, s _ _ a, b.mono fun t c e => s _ _ e⟩
theorem ok_summary_of {f : Addr} {fd : FuncData} {dvs : List V} (F : Fn K "summary_of" s_summary_of dvs f fd) (O_failed_lines : Own P w K mg base "failed_lines" 3 ["counts"] [] (sp_failed_lines)) (O_untried_lines : Own P w K mg base "untried_lines" 3 ["counts"] [] (sp_untried_lines)) (O_passed_lines : Own P w K mg base "passed_lines" 3 ["counts"] [] (sp_passed_lines)) (O_total_lines : Own P w K mg base "total_lines" 2 ["counts"] [] (sp_total_lines)) (O_last_lines : Own P w K mg base "last_lines" 2 ["counts", "verbose"] [] (sp_last_lines)) : FnOk P w K mg base CX0 4 f fd ["counts", "verbose"] (sp_summary_of) := by
  refine Fn.okN F sc_summary_of (fun vs H Q E h => ?_) (fun cdv A outer s H vs Q E hr h => ?_)
  · obtain ⟨_, _, _, _, rfl, _⟩ := h
    rfl
  · obtain ⟨d, ns, lk, b, rfl, hd, ok, k⟩ := h
    refine ⟨_, (pss_cons (ps_set (i := 2) sc_summary_of.nd rfl (.inl rfl) (pe_own O_failed_lines (hr.mono (by decide)) (by rfl) (pa_cons (pv 0) pa_nil)))
      (pss_cut (ps_if (pt_val (pv 1))
          (pss_one (ps_set (i := 2) sc_summary_of.nd rfl (.inl rfl) (pe_op op_cat (pe_op op_cat (pe_op op_cat (pe_own O_untried_lines (hr.mono (by decide)) (by rfl) (pa_cons (pv 0) pa_nil)) (pe_own O_passed_lines (hr.mono (by decide)) (by rfl) (pa_cons (pv 0) pa_nil))) (pv 2)) (pe_own O_total_lines (hr.mono (by decide)) (by rfl) (pa_cons (pv 0) pa_nil)))))
          pss_nil)
      (pss_one (ps_ret (pe_m1 PySem.F.slot_str_join PySem.F.type_str_join mt_join pe_str (pe_lc (own := [("line", 3)]) (g := gName 3) (tt := tYes) (by rfl) sc_summary_of.nd (pi_list (pe_op op_cat (pv 2) (pe_own O_last_lines (hr.mono (by decide)) (by rfl) (pa_cons (pv 0) (pa_cons (pv 1) pa_nil))))) (blkOk_by (own := [("line", 3)]) (N := ["counts", "verbose", "lines", "line"]) (sc := defScope s_summary_of) (by decide +kernel)) (fun _ _ _ _ _ => (pg_name (i := 3) sc_summary_of.nd rfl (.inl rfl))) (fun _ _ _ _ _ => pts_nil) (fun _ _ _ _ _ => (pe_op op_add_str (pv 3) pe_str)))))))), ?_⟩
    obtain ⟨r1, r2, r3⟩ := rows_len ok
    refine ⟨.ref d, rfl, d, ns, lk, rfl, hd, ok, fun H1 L s1 nL eL => ?_⟩
    refine ⟨fun σ H2 => ∃ M : Addr, Same H H2 ∧ H M = none ∧ σ = [some (.ref d), some (.bl b), some (.ref M), none] ∧ H2 M = some (.lst ((if b = true then idleR ns lk ++ goodR ns lk ++ badR ns lk ++ totR ns.length (sumT3 (ns.map lk)) else badR ns lk).map V.str)), ?_, ?_⟩
    · refine ⟨.bl b, rfl, _, rfl, ?_⟩
      cases b with
      | false => exact iteF ⟨L, s1, nL, rfl, eL⟩
      | true =>
        refine iteT ⟨.ref d, rfl, d, ns, lk, rfl, hd.same s1, ok, fun H2 A s2 nA eA => ?_⟩
        have s12 := s1.trans s2
        refine ⟨.ref d, rfl, d, ns, lk, rfl, hd.same s12, ok, fun H3 B s3 nB eB => ?_⟩
        have s13 := s12.trans s3
        refine ⟨A, B, _, _, rfl, rfl, s3 _ _ eA, eB, (by rw [List.length_map, List.length_map]; exact sz (by omega)), fun C nC => ?_⟩
        have sC := same_new (o := .lst ((idleR ns lk).map V.str ++ (goodR ns lk).map V.str)) nC
        have s14 := s13.trans sC
        refine ⟨.ref L, rfl, C, L, _, _, rfl, rfl, upd_same, sC _ _ (s3 _ _ (s2 _ _ eL)), (by rw [List.length_append, List.length_map, List.length_map, List.length_map]; exact sz (by omega)), fun E nE => ?_⟩
        have sE := same_new (o := .lst ((idleR ns lk).map V.str ++ (goodR ns lk).map V.str ++ (badR ns lk).map V.str)) nE
        have s15 := s14.trans sE
        refine ⟨.ref d, rfl, d, ns, lk, rfl, hd.same s15, ok, fun H6 G s6 nG eG => ?_⟩
        refine ⟨E, G, _, _, rfl, rfl, s6 _ _ upd_same, eG, (by simp only [List.length_append, List.length_map]; exact sz (show _ + 2 ≤ _ by omega)), fun M nM => ?_⟩
        refine ⟨M, (s15.trans s6).trans (same_new nM), (s15.trans s6).free nM, rfl, ?_⟩
        rw [upd_same, if_pos rfl, List.map_append, List.map_append, List.map_append]
    · rintro σ H2 ⟨M, s2, nM, rfl, eM⟩
      have hl := sumR_len ok b
      have hs := rows_small ok b
      unfold sumS at k
      have le : (if b = true then idleR ns lk ++ goodR ns lk ++ badR ns lk ++ totR ns.length (sumT3 (ns.map lk)) else badR ns lk) ++ lastR b (sumT3 (ns.map lk)) = sumR ns lk b := rfl
      have ll : (if b = true then idleR ns lk ++ goodR ns lk ++ badR ns lk ++ totR ns.length (sumT3 (ns.map lk)) else badR ns lk).length + (lastR b (sumT3 (ns.map lk))).length = (sumR ns lk b).length := by
        rw [← le, List.length_append]
      refine ⟨⟨_, rfl⟩, .ref M, rfl, .ref d, rfl, .bl b, rfl, d, ns, lk, b, rfl, hd.same s2, ok, fun H3 N s3 nN eN => ?_⟩
      refine ⟨M, N, _, _, rfl, rfl, s3 _ _ eM, eN, (by rw [List.length_map, List.length_map, ll]; exact sz (by omega)), fun X nX => ?_⟩
      have sX := same_new (o := .lst ((sumR ns lk b).map V.str)) nX
      have eX : (upd H3 X (.lst ((if b = true then idleR ns lk ++ goodR ns lk ++ badR ns lk ++ totR ns.length (sumT3 (ns.map lk)) else badR ns lk).map V.str ++ (lastR b (sumT3 (ns.map lk))).map V.str))) X = some (.lst ((sumR ns lk b).map V.str)) := by
        rw [upd_same, ← List.map_append, le]
      rw [← List.map_append, le] at eX ⊢
      generalize upd H3 X (.lst ((sumR ns lk b).map V.str)) = H4 at sX eX ⊢
      refine ⟨X, rfl, ⟨_, SqL.of eX⟩, fun D nD => ?_⟩
      refine lc_rel (K := K) (a := X) (xs := (sumR ns lk b).map V.str) (fun i H y => ∀ x, (sumR ns lk b)[i]? = some x → y = .str (x ++ "\n")) (fun s h => h) (SqL.of eX) nD (by rw [List.length_map]; exact small_line (by omega)) (fun _ => rfl) (fun i v H5 Qy hx s5 kk => ?_) fun H5 ys s5 eL hly hR => ?_
      · obtain ⟨x, rfl, gx⟩ := str_at hx
        have lx := hs x (List.mem_of_getElem? gx)
        have e1 : ("\n" : Str).length = 1 := by decide +kernel
        refine ⟨.str x, rfl, x, "\n", rfl, rfl, sz (by omega), kk _ _ (fun _ _ e => e) fun x' g' => ?_⟩
        rw [gx] at g'
        cases g'
        rfl
      · have ey : ys = ((sumR ns lk b).map fun r : Str => r ++ ("\n" : Str)).map V.str := by
          rw [List.map_map]
          exact map_of (by rw [hly, List.length_map]) fun j y hy x hx => hR j y hy x hx
        refine ⟨"", D, (sumR ns lk b).map (fun r : Str => r ++ ("\n" : Str)), rfl, rfl, .inl (SqL.of (ey ▸ eL)), ?_, k _ (s2.trans (s3.trans (sX.trans s5)))⟩
        have e0 : ("" : Str).length = 0 := by decide +kernel
        have e1 : ("\n" : Str).length = 1 := by decide +kernel
        rw [e0, Nat.mul_zero]
        have sb := @sum_bound ((sumR ns lk b).map fun r : Str => r ++ ("\n" : Str)) 9001 fun r hr => by
          obtain ⟨x, hx, rfl⟩ := List.mem_map.mp hr
          have := hs x hx
          rw [len_app]
          omega
        rw [List.length_map] at sb
        have : 9001 * (sumR ns lk b).length ≤ 9001 * 190 := Nat.mul_le_mul_left _ hl
        omega
def sp_Runner_total (C : Addr) : Sp := fun vs H Q _ => ∃ (r dx p f c : Addr) (ds kvs : List (Key × V)) (W : List (Str × List Str)) (xs : List Str) (items : List (Str × T3)), vs = [.ref r] ∧ RnAt C H r dx p f c ds kvs W xs items ∧ items.length ≤ 1000 ∧ ∀ (H' : Hp) (q : Addr), Same H H' → H q = none → H' q = some (tri (sumT3 (items.map (·.2)))) → Q (.ref q) H'
theorem ok_Runner_total {f : Addr} {fd : FuncData} {dvs : List V} {kws : List (Str × V)} (F : FunD K "total" "Runner.total" (defArgs s_Runner_total) (defBody s_Runner_total) (defScope s_Runner_total) dvs kws f fd) {C_Runner : Addr} (T_Runner : Txt_Runner K mg C_Runner) (O_summed : Own P w K mg base "summed" 1 ["many"] [] (sp_summed)) (m_list : mg "list" = none) : FnOk P w K mg base CX0 2 f fd ["self"] (sp_Runner_total C_Runner) := by
  refine FunD_okN F sc_Runner_total (fun vs H Q E h => ?_) (fun cdv A outer s H vs Q E hr h => ?_)
  · obtain ⟨_, _, _, _, _, _, _, _, _, _, rfl, _⟩ := h
    rfl
  · obtain ⟨r, dx, p, f, c, ds, kvs, W, xs, items, rfl, rn, hl, k⟩ := h
    refine ⟨_, (pss_one (ps_ret (pe_own O_summed (hr.mono (by decide)) (by rfl) (pa_cons (pe_listVals rfl (pe_fldK (K' := K) rfl (pv 0) rfl) (by rfl) m_list (by decide +kernel)) pa_nil)))), ?_⟩
    refine ⟨.ref r, rfl, r, C_Runner, dx, _, _, rfl, rn.ins, T_Runner.cl, T_Runner.n__counts, rfl, c, kvs, rfl, rn.cnts, fun L nL => ?_⟩
    have sL := same_new (o := .lst (kvs.map (·.2))) nL
    exact ⟨L, kvs.map (·.2), items.map (·.2), rfl, upd_same, paired_imp (fun _ _ h => h.same sL) (cnt_vals rn.cnt), by rw [List.length_map, cnt_len rn.cnt]; exact hl, fun H2 q s2 nq eq => k H2 q (sL.trans s2) (sL.free nq) eq⟩
def lookT (items : List (Str × T3)) (x : Str) : T3 := (lookI items x).getD (0, 0, 0)
def sp_Runner_counts (C : Addr) : Sp := fun vs H Q _ => ∃ (r dx p f c : Addr) (ds kvs : List (Key × V)) (W : List (Str × List Str)) (xs : List Str) (items : List (Str × T3)), vs = [.ref r] ∧ RnAt C H r dx p f c ds kvs W xs items ∧ items.length < 64 ∧ (items.map (·.1)).Nodup ∧ ∀ (H' : Hp) (q : Addr) (ns : List Str), ns.Perm (items.map (·.1)) → sortedS ns = true → Same H H' → H q = none → SumAt H' q ns (lookT items) → Q (.ref q) H'
theorem ok_Runner_counts {f : Addr} {fd : FuncData} {dvs : List V} {kws : List (Str × V)} (F : FunD K "counts" "Runner.counts" (defArgs s_Runner_counts) (defBody s_Runner_counts) (defScope s_Runner_counts) dvs kws f fd) {C_Runner : Addr} (T_Runner : Txt_Runner K mg C_Runner) (m_sorted : mg "sorted" = none) : FnOk P w K mg base CX0 1 f fd ["self"] (sp_Runner_counts C_Runner) := by
  refine FunD_okN F sc_Runner_counts (fun vs H Q E h => ?_) (fun cdv A outer s H vs Q E hr h => ?_)
  · obtain ⟨_, _, _, _, _, _, _, _, _, _, rfl, _⟩ := h
    rfl
  · obtain ⟨r, dx, p, f, c, ds, kvs, W, xs, items, rfl, rn, hl, nd, k⟩ := h
    refine ⟨_, (pss_one (ps_ret (pe_dc (own := [("name", 1)]) (g := gName 1) (tt := tYes) (by rfl) sc_Runner_counts.nd (pi_list (pe_callB (call_sortedD rfl) (by rfl) m_sorted (by decide +kernel) (pa_cons (pe_fldK (K' := K) rfl (pv 0) rfl) pa_nil))) (blkOk_by (own := [("name", 1)]) (N := ["self", "name"]) (sc := defScope s_Runner_counts) (by decide +kernel)) (fun _ _ _ _ _ => (pg_name (i := 1) sc_Runner_counts.nd rfl (.inl rfl))) (fun _ _ _ _ _ => pts_nil) (fun _ _ _ _ _ => (pv 1)) (fun _ _ _ _ _ => (pe_dget (hu_of hr) (pe_fldK (K' := K) rfl (pv 0) rfl) (pv 1) (fun _ _ => rfl)))))), ?_⟩
    refine ⟨.ref r, rfl, r, C_Runner, dx, _, _, rfl, rn.ins, T_Runner.cl, T_Runner.n__counts, rfl, c, kvs, items.map (·.1), rfl, .inl rn.cnts, cnt_keys rn.cnt, by rw [List.length_map]; exact hl, fun ns L pm so nL => ?_⟩
    have sL := same_new (o := .lst (ns.map V.str)) nL
    have eL : (upd H L (.lst (ns.map V.str))) L = some (.lst (ns.map V.str)) := upd_same
    generalize upd H L (.lst (ns.map V.str)) = H1 at sL eL ⊢
    have nd2 : ns.Nodup := pm.nodup_iff.mpr nd
    have ln : ns.length = items.length := by
      rw [pm.length_eq, List.length_map]
    refine ⟨L, rfl, ⟨_, SqL.of eL⟩, fun D nD => ?_⟩
    have rn1 := rn.same sL
    refine dc_strs (K := K) (a := L) (xs := ns) (fun i _ y => ∀ x, ns[i]? = some x → TriAt H y (lookT items x)) (fun s h => h) nd2 (SqL.of eL) nD (small_line (by omega)) (fun _ => rfl) (fun _ => rfl) (fun i x H2 Qy hx s2 kk => ?_) fun H2 dsC s2 eD hk hR => ?_
    · have hm : x ∈ items.map (·.1) := pm.mem_iff.mp (List.mem_of_getElem? hx)
      rcases cnt_look x rn.cnt with ⟨h1, h2⟩ | ⟨v, c0, h1, h2, h3⟩
      · exfalso
        obtain ⟨q, hq, e⟩ := List.mem_map.mp hm
        unfold lookI at h2
        have := List.find?_eq_none.mp (Option.map_eq_none_iff.mp h2) q hq
        exact this (decide_eq_true e)
      · have rn2 := rn1.same s2
        refine ⟨.ref r, rfl, r, C_Runner, dx, _, _, rfl, rn2.ins, T_Runner.cl, T_Runner.n__counts, rfl, .str x, rfl, c, v, rfl, by rw [← h1]; exact DGet.k (k := Sum.inr x) rn2.cnts, kk v H2 (fun _ _ e => e) fun x' hx' => ?_⟩
        rw [hx] at hx'
        cases hx'
        unfold lookT
        rw [h2]
        exact h3
    · refine k H2 D ns pm so (sL.trans s2) (sL.free nD) ⟨dsC, eD, ?_⟩
      have hlC : dsC.length = ns.length := by
        have := congrArg List.length hk
        rw [List.length_map, List.length_map] at this
        exact this
      refine paired_of (by rw [hlC]; exact (List.length_map _).symm) fun i q p hq hp => ?_
      unfold itemsOf at hp
      rw [List.getElem?_map] at hp
      obtain ⟨x, hx, rfl⟩ := Option.map_eq_some_iff.mp hp
      have hk2 : (dsC.map (·.1))[i]? = some q.1 := by rw [List.getElem?_map, hq]; rfl
      rw [hk, List.getElem?_map, hx] at hk2
      exact ⟨(Option.some.inj hk2).symm, (hR i q hq x hx).same (sL.trans s2)⟩
def sp_Runner_summary (C : Addr) : Sp := fun vs H Q _ => ∃ (r dx p f c : Addr) (ds kvs : List (Key × V)) (W : List (Str × List Str)) (xs : List Str) (items : List (Str × T3)) (b : Bool), vs = [.ref r, .bl b] ∧ RnAt C H r dx p f c ds kvs W xs items ∧ items.length < 64 ∧ (items.map (·.1)).Nodup ∧ (∀ ns : List Str, ns.Perm (items.map (·.1)) → sortedS ns = true → NmOk ns (lookT items)) ∧ ∀ (H' : Hp) (ns : List Str), ns.Perm (items.map (·.1)) → sortedS ns = true → Same H H' → Q (.str (sumS ns (lookT items) b)) H'
theorem ok_Runner_summary {f : Addr} {fd : FuncData} {dvs : List V} {kws : List (Str × V)} (F : FunD K "summary" "Runner.summary" (defArgs s_Runner_summary) (defBody s_Runner_summary) (defScope s_Runner_summary) dvs kws f fd) {C_Runner : Addr} (T_Runner : Txt_Runner K mg C_Runner) (O_summary_of : Own P w K mg base "summary_of" 4 ["counts", "verbose"] [] (sp_summary_of)) (O_Runner_counts : OwnM P w K mg base C_Runner "counts" 1 ["self"] [] (sp_Runner_counts C_Runner)) : FnOk P w K mg base CX0 5 f fd ["self", "verbose"] (sp_Runner_summary C_Runner) := by
  refine FunD_okN F sc_Runner_summary (fun vs H Q E h => ?_) (fun cdv A outer s H vs Q E hr h => ?_)
  · obtain ⟨_, _, _, _, _, _, _, _, _, _, _, rfl, _⟩ := h
    rfl
  · obtain ⟨r, dx, p, f, c, ds, kvs, W, xs, items, b, rfl, rn, hl, nd, ok, k⟩ := h
    refine ⟨_, (pss_one (ps_ret (pe_own O_summary_of (hr.mono (by decide)) (by rfl) (pa_cons (pe_ownM0 O_Runner_counts (hr.mono (by decide)) (pv 0)) (pa_cons (pv 1) pa_nil))))), ?_⟩
    exact ⟨.ref r, rfl, r, dx, _, rfl, rn.ins, rfl, r, dx, p, f, c, ds, kvs, W, xs, items, rfl, rn, hl, nd, fun H1 q ns pm so s1 nq hq => ⟨.bl b, rfl, q, ns, lookT items, b, rfl, hq, ok ns pm so, fun H2 s2 => k H2 ns pm so (s1.trans s2)⟩⟩
end

/-! ### LAW MARK -/

/-! ### the law's own defs -/
theorem some_app {x : Str} : x ++ "" = x := ext_tl (by
  rw [tl_append]
  have e : tl "" = [] := by decide +kernel
  rw [e, List.append_nil])
def ScB (a : V) : Prop := a = .non ∨ (∃ s : Str, a = .str s) ∨ (∃ i : Int, a = .int i) ∨ ∃ b : Bool, a = .bl b
/-- data that are not dicts: a locked dict elsewhere does not matter -/
def Sq (H : Hp) : Nat → V → V → Prop
  | 0, _, _ => False
  | n + 1, x, y => (ScB y ∧ x = y) ∨ (∃ (p q : Addr) (xs ys : List V), x = .ref p ∧ y = .ref q ∧ (H p = some (.lst xs) ∧ H q = some (.lst ys) ∨ H p = some (.tup xs) ∧ H q = some (.tup ys)) ∧ Paired (Sq H n) xs ys ∧ xs.length ≤ 1000)
theorem Sq.seqs {H H' : Hp} (s : SeqSame H H') : ∀ {n : Nat} {x y : V}, Sq H n x y → Sq H' n x y
  | 0, _, _, h => h.elim
  | n + 1, _, _, .inl h => .inl h
  | n + 1, _, _, .inr ⟨p, q, xs, ys, h1, h2, h3, h4, h5⟩ => .inr ⟨p, q, xs, ys, h1, h2, by
      rcases h3 with ⟨a, b⟩ | ⟨a, b⟩
      · exact .inl ⟨s _ _ a (.inl ⟨_, rfl⟩), s _ _ b (.inl ⟨_, rfl⟩)⟩
      · exact .inr ⟨s _ _ a (.inr ⟨_, rfl⟩), s _ _ b (.inr ⟨_, rfl⟩)⟩, paired_imp (fun _ _ k => Sq.seqs s k) h4, h5⟩
/-- the same, n levels at most -/
def Sm (H : Hp) : Nat → V → V → Prop
  | 0, _, _ => False
  | n + 1, x, y => (ScB y ∧ x = y) ∨ (∃ (p q : Addr) (xs ys : List V), x = .ref p ∧ y = .ref q ∧ (H p = some (.lst xs) ∧ H q = some (.lst ys) ∨ H p = some (.tup xs) ∧ H q = some (.tup ys)) ∧ Paired (Sm H n) xs ys ∧ xs.length ≤ 1000) ∨
    ∃ (p q : Addr) (ks ls : List (Key × V)) (ns ms : List Str), x = .ref p ∧ y = .ref q ∧ p ≠ q ∧ H p = some (.dK ks) ∧ H q = some (.dK ls) ∧ ks.map (·.1) = ns.map Sum.inr ∧ ls.map (·.1) = ms.map Sum.inr ∧ ns.Perm ms ∧ ms.length < 64 ∧ (∀ z ∈ ms, okS z) ∧ ∀ z ∈ ms, ∃ v u, valV ks (Sum.inr z) = some v ∧ valV ls (Sum.inr z) = some u ∧ Sq H n v u
/-- lists, tuples and dicts but one stand -/
theorem Sm.same {H H' : Hp} (s : Same H H') : ∀ {n : Nat} {x y : V}, Sm H n x y → Sm H' n x y
  | 0, _, _, h => h.elim
  | n + 1, x, y, h => by
    rcases h with h | ⟨p, q, xs, ys, h1, h2, h3, h4, h5⟩ | ⟨p, q, ks, ls, ns, ms, h1, h2, h0, h3, h4, h5, h6, h7, h8, h9, h10⟩
    · exact .inl h
    · refine .inr (.inl ⟨p, q, xs, ys, h1, h2, ?_, paired_imp (fun _ _ k => Sm.same s k) h4, h5⟩)
      rcases h3 with ⟨a, b⟩ | ⟨a, b⟩
      · exact .inl ⟨s _ _ a, s _ _ b⟩
      · exact .inr ⟨s _ _ a, s _ _ b⟩
    · exact .inr (.inr ⟨p, q, ks, ls, ns, ms, h1, h2, h0, s _ _ h3, s _ _ h4, h5, h6, h7, h8, h9, fun z hz => let ⟨v, u, a, b, c⟩ := h10 z hz; ⟨v, u, a, b, c.seqs (SeqSame.of s)⟩⟩)
theorem Sq.sm {H : Hp} : ∀ {n : Nat} {x y : V}, Sq H n x y → Sm H n x y
  | 0, _, _, h => h.elim
  | n + 1, _, _, .inl h => .inl h
  | n + 1, _, _, .inr ⟨p, q, xs, ys, h1, h2, h3, h4, h5⟩ => .inr (.inl ⟨p, q, xs, ys, h1, h2, h3, paired_imp (fun _ _ k => Sq.sm k) h4, h5⟩)
theorem eqv_strs (ns : List Str) (h : ∀ x ∈ ns, okS x) : PyData.eqv (.list (ns.map PyData.str)) (.list (ns.map PyData.str)) = true := SeqAt.eqv_refl _ (SeqAt.canLay_of_shaped (shaped_strs ns h))
def trues (n : Nat) : List V := (List.replicate n true).map V.bl
theorem trues_snoc (n : Nat) : trues n ++ [V.bl true] = trues (n + 1) := by
  unfold trues
  rw [List.replicate_succ', List.map_append]
  rfl
theorem trues_all (n : Nat) : (List.replicate n true).all id = true := by
  rw [List.all_eq_true]
  intro b hb
  exact (List.eq_of_mem_replicate hb)
section
variable {P : Program} {w : World} {K : PySem.W.Frag} {mg : Str → Option Value} {base : Heap}
def sp_law_same (n : Nat) : Sp := fun vs H Q _ => ∃ a b : V, vs = [a, b] ∧ Sm H n a b ∧ ∀ H', Same H H' → Q (.bl true) H'
theorem sp_law_same_no {vs : List V} {H : Hp} {Q : VK} {E : XK} (h : sp_law_same 0 vs H Q E) : False := by
  obtain ⟨a, b, _, h, _⟩ := h
  exact h
theorem ok_law_same {f : Addr} {fd : FuncData} {dvs : List V} (F : Fn K "_law_same" s_law_same dvs f fd) {n r : Nat} (O_law_same : Own P w K mg base "_law_same" r ["found", "due"] [] (sp_law_same n)) (m_all : mg "all" = none) (m_bool : mg "bool" = none) (m_dict : mg "dict" = none) (m_int : mg "int" = none) (m_isinstance : mg "isinstance" = none) (m_len : mg "len" = none) (m_list : mg "list" = none) (m_sorted : mg "sorted" = none) (m_tuple : mg "tuple" = none) (m_zip : mg "zip" = none) : FnOk P w K mg base CX0 (r + 1) f fd ["found", "due"] (sp_law_same (n + 1)) := by
  refine Fn.okN F sc_law_same (fun vs H Q E h => ?_) (fun cdv A outer s H vs Q E hr h => ?_)
  · obtain ⟨_, _, rfl, _⟩ := h
    rfl
  · obtain ⟨a, b, rfl, hs, k⟩ := h
    refine ⟨_, (pss_cons (ps_if (pt_val (pe_callB call_isi (by rfl) m_isinstance (by decide +kernel) (pa_cons (pv 1) (pa_cons (pe_bltn (v := .ty "dict") (by rfl) m_dict (by decide +kernel) rfl) pa_nil))))
          (pss_cons (ps_if (PW.pt (pw_or (pt_not (pt_val (pe_callB call_isi (by rfl) m_isinstance (by decide +kernel) (pa_cons (pv 0) (pa_cons (pe_bltn (v := .ty "dict") (by rfl) m_dict (by decide +kernel) rfl) pa_nil))))) (pw_or1 (pt_cmpR (op_neD hr.units) (pe_callB (call_sortedD rfl) (by rfl) m_sorted (by decide +kernel) (pa_cons (pv 0) pa_nil)) (pe_callB (call_sortedD rfl) (by rfl) m_sorted (by decide +kernel) (pa_cons (pv 1) pa_nil)) (nomark _)))))
                (pss_one (ps_ret pe_bl))
                pss_nil)
            (pss_one (ps_ret (pe_callB (cr_all rfl) (by rfl) m_all (by decide +kernel) (pa_cons (pe_lock (pe_lc (own := [("key", 2)]) (g := gName 2) (tt := tYes) (by rfl) sc_law_same.nd (pi_keys (pv 1)) (blkOk_by (own := [("key", 2)]) (N := ["found", "due", "key", "one", "two"]) (sc := defScope s_law_same) (by decide +kernel)) (fun _ _ _ _ _ => (pg_name (i := 2) sc_law_same.nd rfl (.inl rfl))) (fun _ _ _ _ _ => pts_nil) (fun _ _ _ _ _ => (pe_own O_law_same (hr.mono (by omega)) (by rfl) (pa_cons (pe_dget (hu_of hr) (pv 0) (pv 2) (fun _ _ => rfl)) (pa_cons (pe_dget (hu_of hr) (pv 1) (pv 2) (fun _ _ => rfl)) pa_nil)))))) pa_nil)))))
          pss_nil)
      (pss_cons (ps_if (pt_val (pe_callB call_isiT (by rfl) m_isinstance (by decide +kernel) (pa_cons (pv 1) (pa_cons (pe_tup (pa_cons (pe_bltn (v := .ty "list") (by rfl) m_list (by decide +kernel) rfl) (pa_cons (pe_bltn (v := .ty "tuple") (by rfl) m_tuple (by decide +kernel) rfl) pa_nil))) pa_nil))))
          (pss_cons (ps_if (PW.pt (pw_or (pt_cmpR op_ne (pe_callB call_isi (by rfl) m_isinstance (by decide +kernel) (pa_cons (pv 0) (pa_cons (pe_bltn (v := .ty "list") (by rfl) m_list (by decide +kernel) rfl) pa_nil))) (pe_callB call_isi (by rfl) m_isinstance (by decide +kernel) (pa_cons (pv 1) (pa_cons (pe_bltn (v := .ty "list") (by rfl) m_list (by decide +kernel) rfl) pa_nil))) (nomark _)) (pw_or1 (pt_cmpR op_ne (pe_callB call_isi (by rfl) m_isinstance (by decide +kernel) (pa_cons (pv 0) (pa_cons (pe_bltn (v := .ty "tuple") (by rfl) m_tuple (by decide +kernel) rfl) pa_nil))) (pe_callB call_isi (by rfl) m_isinstance (by decide +kernel) (pa_cons (pv 1) (pa_cons (pe_bltn (v := .ty "tuple") (by rfl) m_tuple (by decide +kernel) rfl) pa_nil))) (nomark _)))))
                (pss_one (ps_ret pe_bl))
                pss_nil)
            (pss_one (ps_ret (pe_and (pe_cmpR op_eq (pe_callB call_len_seq (by rfl) m_len PySem.boot_len (pa_cons (pv 0) pa_nil)) (pe_callB call_len_seq (by rfl) m_len PySem.boot_len (pa_cons (pv 1) pa_nil)) (nomark _)) (pe_one (pe_callB (cr_all rfl) (by rfl) m_all (by decide +kernel) (pa_cons (pe_lc (own := [("one", 3), ("two", 4)]) (g := gTup K 2 (gCons (gName 3) (gCons (gName 4) gNil))) (tt := tYes) (by rfl) sc_law_same.nd (RZ.pi_zipA (by rfl) m_zip (pa_cons (pv 0) (pa_cons (pv 1) pa_nil))) (blkOk_by (own := [("one", 3), ("two", 4)]) (N := ["found", "due", "key", "one", "two"]) (sc := defScope s_law_same) (by decide +kernel)) (fun _ _ _ _ _ => (pg_tup rfl (pgs_cons (pg_name (i := 3) sc_law_same.nd rfl (.inl rfl)) (pgs_cons (pg_name (i := 4) sc_law_same.nd rfl (.inl rfl)) pgs_nil)))) (fun _ _ _ _ _ => pts_nil) (fun _ _ _ _ _ => (pe_own O_law_same (hr.mono (by omega)) (by rfl) (pa_cons (pv 3) (pa_cons (pv 4) pa_nil))))) pa_nil)))))))
          pss_nil)
      (pss_cons (ps_if (pt_val (pe_callB call_isiT (by rfl) m_isinstance (by decide +kernel) (pa_cons (pv 1) (pa_cons (pe_tup (pa_cons (pe_bltn (v := .ty "bool") (by rfl) m_bool (by decide +kernel) rfl) (pa_cons (pe_bltn (v := .ty "int") (by rfl) m_int (by decide +kernel) rfl) pa_nil))) pa_nil))))
          (pss_one (ps_ret (pe_and (pe_callB call_isi (by rfl) m_isinstance (by decide +kernel) (pa_cons (pv 0) (pa_cons (pe_bltn (v := .ty "int") (by rfl) m_int (by decide +kernel) rfl) pa_nil))) (pe_and (pe_cmpR op_eq (pe_callB call_isi (by rfl) m_isinstance (by decide +kernel) (pa_cons (pv 0) (pa_cons (pe_bltn (v := .ty "bool") (by rfl) m_bool (by decide +kernel) rfl) pa_nil))) (pe_callB call_isi (by rfl) m_isinstance (by decide +kernel) (pa_cons (pv 1) (pa_cons (pe_bltn (v := .ty "bool") (by rfl) m_bool (by decide +kernel) rfl) pa_nil))) (nomark _)) (pe_one (pe_cmpR op_eq (pv 0) (pv 1) (nomark _)))))))
          pss_nil)
      (pss_one (ps_ret (pe_and (pe_not (pe_callB call_isiT (by rfl) m_isinstance (by decide +kernel) (pa_cons (pv 0) (pa_cons (pe_tup (pa_cons (pe_bltn (v := .ty "bool") (by rfl) m_bool (by decide +kernel) rfl) (pa_cons (pe_bltn (v := .ty "int") (by rfl) m_int (by decide +kernel) rfl) (pa_cons (pe_bltn (v := .ty "list") (by rfl) m_list (by decide +kernel) rfl) (pa_cons (pe_bltn (v := .ty "tuple") (by rfl) m_tuple (by decide +kernel) rfl) (pa_cons (pe_bltn (v := .ty "dict") (by rfl) m_dict (by decide +kernel) rfl) pa_nil)))))) pa_nil)))) (pe_one (pe_cmpR op_eq (pv 0) (pv 1) (nomark _))))))))), ?_⟩
    rcases hs with ⟨hsc, rfl⟩ | ⟨p, q, xs, ys, rfl, rfl, hl, hpr, hle⟩ | ⟨p, q, ks, ls, ns, ms, rfl, rfl, npq, hp, hq, hks, hls, pm, h64, hok, hv⟩
    · obtain ⟨n1, kI, kB, ty, k0, k1, k2, k3, k4⟩ : ∃ (n : String) (kI kB : Bool), (∀ H, TyX K H a (.type n)) ∧ PySem.W.kitOne K (.type n) (.type "dict") = some false ∧ PySem.W.kitOne K (.type n) (.type "list") = some false ∧ PySem.W.kitOne K (.type n) (.type "tuple") = some false ∧ PySem.W.kitOne K (.type n) (.type "bool") = some kB ∧ PySem.W.kitOne K (.type n) (.type "int") = some kI ∧ (kB = true → kI = true) := by
        rcases hsc with rfl | ⟨s, rfl⟩ | ⟨i, rfl⟩ | ⟨c, rfl⟩
        · exact ⟨"NoneType", false, false, fun H => .base .non, kit_ty (by decide +kernel), kit_ty (by decide +kernel), kit_ty (by decide +kernel), kit_ty (by decide +kernel), kit_ty (by decide +kernel), nofun⟩
        · exact ⟨"str", false, false, fun H => .base (.str s), kit_ty (by decide +kernel), kit_ty (by decide +kernel), kit_ty (by decide +kernel), kit_ty (by decide +kernel), kit_ty (by decide +kernel), nofun⟩
        · exact ⟨"int", true, false, fun H => .base (.int i), kit_ty (by decide +kernel), kit_ty (by decide +kernel), kit_ty (by decide +kernel), kit_ty (by decide +kernel), kit_ty (by decide +kernel), nofun⟩
        · exact ⟨"bool", true, true, fun H => .base (.bl c), kit_ty (by decide +kernel), kit_ty (by decide +kernel), kit_ty (by decide +kernel), kit_ty (by decide +kernel), kit_ty (by decide +kernel), fun _ => rfl⟩
      obtain ⟨k4, kk⟩ := k4
      have sc : scal a a = true := by rcases hsc with rfl | ⟨s, rfl⟩ | ⟨i, rfl⟩ | ⟨c, rfl⟩ <;> rfl
      refine ⟨a, rfl, _, _, _, _, false, rfl, .ty "dict", ty H, k0, false, rfl, iteF ?_⟩
      refine ⟨a, rfl, by show 2 ≤ sizeLine; decide, fun T nT => ?_⟩
      have sT := same_new (o := .tup [.ty "list", .ty "tuple"]) nT
      have tT : (upd H T (.tup [.ty "list", .ty "tuple"])) T = some (.tup [.ty "list", .ty "tuple"]) := upd_same
      generalize upd H T (.tup [.ty "list", .ty "tuple"]) = H1 at sT tT ⊢
      refine ⟨a, T, [.ty "list", .ty "tuple"], _, _, false, rfl, tT, .cons (.ty "list") (.cons (.ty "tuple") .nil), ty H1, kitAny_cons (b := false) k1 (fun _ => kitAny_cons (b := false) k2 (fun _ => kitAny_nil) (fun h => Bool.noConfusion h)) (fun h => Bool.noConfusion h), false, rfl, iteF ?_⟩
      refine ⟨a, rfl, by show 2 ≤ sizeLine; decide, fun T2 nT2 => ?_⟩
      have sT2 := same_new (o := .tup [.ty "bool", .ty "int"]) nT2
      have tT2 : (upd H1 T2 (.tup [.ty "bool", .ty "int"])) T2 = some (.tup [.ty "bool", .ty "int"]) := upd_same
      generalize upd H1 T2 (.tup [.ty "bool", .ty "int"]) = H2 at sT2 tT2 ⊢
      have fin : ∀ H3, Same H2 H3 → Q (.bl (decide (a = a))) H3 := by
        intro H3 s3
        rw [decide_eq_true rfl]
        exact k H3 (sT.trans (sT2.trans s3))
      cases kI with
      | false =>
        cases kB with
        | true => exact absurd (kk rfl) Bool.false_ne_true
        | false =>
          refine ⟨a, T2, [.ty "bool", .ty "int"], _, _, false, rfl, tT2, .cons (.ty "bool") (.cons (.ty "int") .nil), ty H2, kitAny_cons (b := false) k3 (fun _ => kitAny_cons (b := false) k4 (fun _ => kitAny_nil) (fun h => Bool.noConfusion h)) (fun h => Bool.noConfusion h), false, rfl, iteF ?_⟩
          refine ⟨a, rfl, by show 5 ≤ sizeLine; decide, fun T3 nT3 => ?_⟩
          have sT3 := same_new (o := .tup [.ty "bool", .ty "int", .ty "list", .ty "tuple", .ty "dict"]) nT3
          refine ⟨a, T3, [.ty "bool", .ty "int", .ty "list", .ty "tuple", .ty "dict"], _, _, false, rfl, upd_same, .cons (.ty "bool") (.cons (.ty "int") (.cons (.ty "list") (.cons (.ty "tuple") (.cons (.ty "dict") .nil)))), ty _, kitAny_cons (b := false) k3 (fun _ => kitAny_cons (b := false) k4 (fun _ => kitAny_cons (b := false) k1 (fun _ => kitAny_cons (b := false) k2 (fun _ => kitAny_cons (b := false) k0 (fun _ => kitAny_nil) (fun h => Bool.noConfusion h)) (fun h => Bool.noConfusion h)) (fun h => Bool.noConfusion h)) (fun h => Bool.noConfusion h)) (fun h => Bool.noConfusion h), _, rfl, true, rfl, iteT ⟨a, rfl, a, rfl, sc, fin _ sT3⟩⟩
      | true =>
        refine ⟨a, T2, [.ty "bool", .ty "int"], _, _, true, rfl, tT2, .cons (.ty "bool") (.cons (.ty "int") .nil), ty H2, kitAny_cons (b := kB) k3 (fun _ => kitAny_cons (b := true) k4 (fun h => Bool.noConfusion h) (fun _ => rfl)) (fun _ => rfl), true, rfl, iteT ?_⟩
        refine ⟨a, rfl, _, _, _, _, true, rfl, .ty "int", ty H2, k4, true, rfl, iteT ?_⟩
        refine ⟨a, rfl, _, _, _, _, kB, rfl, .ty "bool", ty H2, k3, a, rfl, _, _, _, _, kB, rfl, .ty "bool", ty H2, k3, rfl, true, congrArg V.bl (decide_eq_true rfl), iteT ⟨a, rfl, a, rfl, sc, fin _ (fun _ _ e => e)⟩⟩
    · have hlen : xs.length = ys.length := Paired.length hpr
      have kD : ∀ H', Same H H' → ∃ t, TyX K H' (.ref q) t ∧ PySem.W.kitOne K t (.type "dict") = some false := fun H' s => by
        rcases hl with ⟨hp, hq⟩ | ⟨hp, hq⟩
        · exact ⟨.type "list", .base (.lst (s _ _ hq)), kit_ty (by decide +kernel)⟩
        · exact ⟨.type "tuple", .base (.tup (s _ _ hq)), kit_ty (by decide +kernel)⟩
      obtain ⟨tq, ty0, k0⟩ := kD H (fun _ _ e => e)
      refine ⟨.ref q, rfl, _, _, _, _, false, rfl, .ty "dict", ty0, k0, false, rfl, iteF ?_⟩
      refine ⟨.ref q, rfl, by show 2 ≤ sizeLine; decide, fun T nT => ?_⟩
      have sT := same_new (o := .tup [.ty "list", .ty "tuple"]) nT
      have tT : (upd H T (.tup [.ty "list", .ty "tuple"])) T = some (.tup [.ty "list", .ty "tuple"]) := upd_same
      generalize upd H T (.tup [.ty "list", .ty "tuple"]) = H1 at sT tT ⊢
      rcases hl with ⟨hp, hq⟩ | ⟨hp, hq⟩
      · have hp1 := sT _ _ hp
        have hq1 := sT _ _ hq
        refine ⟨.ref q, T, [.ty "list", .ty "tuple"], _, _, true, rfl, tT, .cons (.ty "list") (.cons (.ty "tuple") .nil), .base (.lst hq1), kitAny_cons (b := true) (kit_ty (by decide +kernel)) (fun h => Bool.noConfusion h) (fun _ => rfl), true, rfl, iteT ?_⟩
        refine ⟨.ref p, rfl, _, _, _, _, true, rfl, .ty "list", .base (.lst hp1), kit_ty (by decide +kernel), .ref q, rfl, _, _, _, _, true, rfl, .ty "list", .base (.lst hq1), kit_ty (by decide +kernel), rfl, _, rfl, ?_⟩
        rw [decide_eq_true (rfl : (V.bl true : V) = _)]
        refine iteF ⟨.ref p, rfl, _, _, _, _, false, rfl, .ty "tuple", .base (.lst hp1), kit_ty (by decide +kernel), .ref q, rfl, _, _, _, _, false, rfl, .ty "tuple", .base (.lst hq1), kit_ty (by decide +kernel), rfl, _, rfl, ?_⟩
        rw [decide_eq_true (rfl : (V.bl false : V) = _)]
        refine iteF ⟨.ref p, rfl, p, xs, rfl, .inl (SqL.of hp1), .ref q, rfl, q, ys, rfl, .inl (SqL.of hq1), rfl, true, congrArg V.bl (decide_eq_true (by rw [hlen])), iteT ⟨.ref p, rfl, .ref q, rfl, p, q, xs, ys, rfl, .inl ⟨SqL.of hp1, SqL.of hq1, fun C nC => ?_⟩⟩⟩
        refine lc_zip (K := K) (a := p) (b := q) (xs := xs) (ys := ys) hlen (fun i H2 => Same H1 H2 ∧ H2 C = some (.lst (trues i))) ⟨same_new nC, upd_same⟩ (fun i H2 h => ⟨SqL.of (h.1 _ _ hp1), SqL.of (h.1 _ _ hq1)⟩) ?_ ?_
        · rintro i x y T2 H2 hx hy ⟨s2, eC⟩ nT2
          have sT2 := same_new (o := .tup [x, y]) nT2
          refine ⟨T2, [x, y], rfl, SqT.of upd_same, rfl, _, _, rfl, _, _, rfl, rfl, rfl, ?_⟩
          unfold tYes
          show ite (true = true) _ _
          rw [if_pos rfl]
          have hi : i < xs.length := (List.getElem?_eq_some_iff.mp hx).1
          refine ⟨x, rfl, y, rfl, x, y, rfl, (paired_at hpr hx hy).same (sT.trans (s2.trans sT2)), fun H3 s3 => ⟨_, s3 _ _ (sT2 _ _ eC), ?_, fun b o e => ?_, ?_⟩⟩
          · unfold trues
            rw [List.length_map, List.length_replicate]
            exact Nat.lt_of_le_of_lt (show i ≤ 1000 by omega) (by decide)
          · rw [upd_ne (ne_of_none e nC)]
            exact s3 _ _ (sT2 _ _ (s2 _ _ e))
          · rw [upd_same, trues_snoc]
        · rintro H2 ⟨s2, eC⟩
          refine ⟨C, List.replicate xs.length true, rfl, SqL.of eC, ?_⟩
          rw [trues_all]
          exact k _ (sT.trans s2)
      · have hp1 := sT _ _ hp
        have hq1 := sT _ _ hq
        refine ⟨.ref q, T, [.ty "list", .ty "tuple"], _, _, true, rfl, tT, .cons (.ty "list") (.cons (.ty "tuple") .nil), .base (.tup hq1), kitAny_cons (b := false) (kit_ty (by decide +kernel)) (fun _ => kitAny_cons (b := true) (kit_ty (by decide +kernel)) (fun h => Bool.noConfusion h) (fun _ => rfl)) (fun h => Bool.noConfusion h), true, rfl, iteT ?_⟩
        refine ⟨.ref p, rfl, _, _, _, _, false, rfl, .ty "list", .base (.tup hp1), kit_ty (by decide +kernel), .ref q, rfl, _, _, _, _, false, rfl, .ty "list", .base (.tup hq1), kit_ty (by decide +kernel), rfl, _, rfl, ?_⟩
        rw [decide_eq_true (rfl : (V.bl false : V) = _)]
        refine iteF ⟨.ref p, rfl, _, _, _, _, true, rfl, .ty "tuple", .base (.tup hp1), kit_ty (by decide +kernel), .ref q, rfl, _, _, _, _, true, rfl, .ty "tuple", .base (.tup hq1), kit_ty (by decide +kernel), rfl, _, rfl, ?_⟩
        rw [decide_eq_true (rfl : (V.bl true : V) = _)]
        refine iteF ⟨.ref p, rfl, p, xs, rfl, .inr (SqT.of hp1), .ref q, rfl, q, ys, rfl, .inr (SqT.of hq1), rfl, true, congrArg V.bl (decide_eq_true (by rw [hlen])), iteT ⟨.ref p, rfl, .ref q, rfl, p, q, xs, ys, rfl, .inr ⟨SqT.of hp1, SqT.of hq1, fun C nC => ?_⟩⟩⟩
        refine lc_zipT (K := K) (a := p) (b := q) (xs := xs) (ys := ys) hlen (fun i H2 => Same H1 H2 ∧ H2 C = some (.lst (trues i))) ⟨same_new nC, upd_same⟩ (fun i H2 h => ⟨SqT.of (h.1 _ _ hp1), SqT.of (h.1 _ _ hq1)⟩) ?_ ?_
        · rintro i x y T2 H2 hx hy ⟨s2, eC⟩ nT2
          have sT2 := same_new (o := .tup [x, y]) nT2
          refine ⟨T2, [x, y], rfl, SqT.of upd_same, rfl, _, _, rfl, _, _, rfl, rfl, rfl, ?_⟩
          unfold tYes
          show ite (true = true) _ _
          rw [if_pos rfl]
          have hi : i < xs.length := (List.getElem?_eq_some_iff.mp hx).1
          refine ⟨x, rfl, y, rfl, x, y, rfl, (paired_at hpr hx hy).same (sT.trans (s2.trans sT2)), fun H3 s3 => ⟨_, s3 _ _ (sT2 _ _ eC), ?_, fun b o e => ?_, ?_⟩⟩
          · unfold trues
            rw [List.length_map, List.length_replicate]
            exact Nat.lt_of_le_of_lt (show i ≤ 1000 by omega) (by decide)
          · rw [upd_ne (ne_of_none e nC)]
            exact s3 _ _ (sT2 _ _ (s2 _ _ e))
          · rw [upd_same, trues_snoc]
        · rintro H2 ⟨s2, eC⟩
          refine ⟨C, List.replicate xs.length true, rfl, SqL.of eC, ?_⟩
          rw [trues_all]
          exact k _ (sT.trans s2)
    · have hlen : ls.length = ms.length := by
        have := congrArg List.length hls
        rw [List.length_map, List.length_map] at this
        exact this
      refine ⟨.ref q, rfl, _, _, _, _, true, rfl, .ty "dict", .base (.dK hq), kit_ty (by decide +kernel), true, rfl, iteT ?_⟩
      refine ⟨.ref p, rfl, _, _, _, _, true, rfl, .ty "dict", .base (.dK hp), kit_ty (by decide +kernel), true, rfl, iteF ?_⟩
      refine ⟨.ref p, rfl, p, ks, ns, rfl, .inl hp, hks, by rw [pm.length_eq]; exact h64, fun us L1 pm1 so1 n1 => ?_⟩
      have s1 := same_new (o := .lst (us.map V.str)) n1
      refine ⟨.ref q, rfl, q, ls, ms, rfl, .inl (s1 _ _ hq), hls, h64, fun ws L2 pm2 so2 n2 => ?_⟩
      have s2 := same_new (o := .lst (ws.map V.str)) n2
      have eu : us = ws := sorted_one so1 so2 (pm1.trans (pm.trans pm2.symm))
      subst eu
      have oku : ∀ x ∈ us, okS x := fun x hx => hok x (pm2.mem_iff.mp hx)
      refine ⟨_, _, .lst (SqL.of (s2 _ _ upd_same)) (dp_strs us), .lst (SqL.of upd_same) (dp_strs us), shaped_strs us oku, shaped_strs us oku, _, rfl, ?_⟩
      rw [eqv_strs us oku]
      refine iteF ?_
      have s12 := s1.trans s2
      have hp2 := s12 _ _ hp
      have hq2 := s12 _ _ hq
      generalize upd (upd H L1 (.lst (us.map V.str))) L2 (.lst (us.map V.str)) = H2 at s12 hp2 hq2 ⊢
      refine ⟨q, .dK ls, hq2, trivial, fun od => ⟨.ref q, rfl, q, od, rfl, .inl ⟨ls, upd_same, fun D nD => ?_⟩⟩⟩
      have qD : q ≠ D := fun z => by
        rw [← z, upd_same] at nD
        cases nD
      have hlt : ls.length ≤ 63 := by omega
      refine lc_keys (fun i H3 => Same (upd H2 q (.frz od (.dK ls))) H3 ∧ H3 D = some (.lst (trues i))) ⟨same_new nD, upd_same⟩ (fun i H3 h => h.1 _ _ upd_same) (fun i kk v H3 hk h => ?_) (fun H3 h => ?_)
      · obtain ⟨s3, eD⟩ := h
        have gi : (ls.map (·.1))[i]? = some kk := by rw [List.getElem?_map, hk]; rfl
        rw [hls, List.getElem?_map] at gi
        obtain ⟨z, gz, rfl⟩ := Option.map_eq_some_iff.mp gi
        obtain ⟨v1, u1, e1, e2, e3⟩ := hv z (List.mem_of_getElem? gz)
        have hi : i < ls.length := (List.getElem?_eq_some_iff.mp hk).1
        refine ⟨rfl, ?_⟩
        unfold tYes
        show ite (true = true) _ _
        rw [if_pos rfl]
        have hp3 : H3 p = some (.dK ks) := s3 _ _ (by rw [upd_ne npq]; exact hp2)
        refine ⟨.ref p, rfl, .str z, rfl, p, v1, rfl, by rw [← e1]; exact DGet.k (k := Sum.inr z) hp3, .ref q, rfl, .str z, rfl, q, u1, rfl, .inl ⟨ls, Sum.inr z, .inr ⟨od, s3 _ _ upd_same⟩, rfl, e2.symm⟩, v1, u1, rfl, (e3.seqs (((SeqSame.of s12).trans (SeqSame.put hq2 fun xs => ⟨nofun, nofun⟩)).trans (SeqSame.of s3))).sm, fun H4 s4 => ⟨_, s4 _ _ eD, ?_, fun b o e => ?_, ?_⟩⟩
        · unfold trues
          rw [List.length_map, List.length_replicate]
          exact small_line (by omega)
        · rw [upd_ne (ne_of_none e nD)]
          exact s4 _ _ (s3 _ _ e)
        · rw [upd_same, trues_snoc]
      · obtain ⟨s3, eD⟩ := h
        refine ⟨s3 _ _ upd_same, D, List.replicate ls.length true, rfl, SqL.of (by rw [upd_ne qD.symm]; exact eD), ?_⟩
        rw [trues_all]
        exact k _ (s12.trans (lock_same hq2 s3))
end

theorem mulOk_s0 : MulOk "s" 0 := by unfold MulOk; decide +kernel
theorem mulOk_s1 : MulOk "s" 1 := by unfold MulOk; decide +kernel
theorem tri_two (a c : T3) : tri (sumT3 [a, c]) = .tup [.int (((a.1 : Nat) : Int) + ((c.1 : Nat) : Int)), .int (((a.2.1 : Nat) : Int) + ((c.2.1 : Nat) : Int)), .int (((a.2.2 : Nat) : Int) + ((c.2.2 : Nat) : Int))] := by
  unfold tri sumT3
  simp
theorem mul_s (b : Bool) : Txt.mul "s" (if b = true then 1 else 0) = if b = true then ("s" : Str) else "" := by
  cases b
  · exact ext_tl (by decide +kernel)
  · exact ext_tl (by decide +kernel)
/-- a comprehension over a range -/
theorem lc_relR {n : Nat} {D : Addr} {j : Nat} {te : TE} {vs : List Nat} {σ : L2.St} {H1 : Hp} {Qd : Hp → Prop} (R : Nat → Hp → V → Prop) (mono : ∀ {H H' : Hp} {i : Nat} {y : V}, Same H H' → R i H y → R i H' y) (nD : H1 D = none) (hz : n < sizeLine) (hw : ∀ x, wipe ((wipe σ vs).set j (some x)) vs = wipe σ vs)
    (each : ∀ (i : Nat) (H2 : Hp) (Qy : VK), i < n → Same H1 H2 → (∀ y H4, Same H2 H4 → R i (difH H2 H4) y → Qy y H4) → te ((wipe σ vs).set j (some (.int (0 + (i : Nat))))) H2 Qy)
    (fin : ∀ (H' : Hp) (ys : List V), Same H1 H' → H' D = some (.lst ys) → ys.length = n → (∀ j y, ys[j]? = some y → R j (cutH D (difH H1 H')) y) → Qd H') :
    ∃ W : Nat → Nat → Hp → Prop, (∃ m, W 0 m (upd H1 D (.lst []))) ∧ ∀ i m H, W i m H →
      ((Itr 0 n).stop i H ∧ Qd H) ∨ ((Itr 0 n).go i H ∧ ∃ Nx : Hp → Prop, (∀ H', Nx H' → ∃ m', m' < m ∧ W (i + 1) m' H') ∧ ∀ x H', (Itr 0 n).yld i H x H' → gName j x (wipe σ vs) H' fun σ2 H2 => wipe σ2 vs = wipe σ vs ∧ tYes σ2 H2 fun b H3 =>
        if b = true then te σ2 H3 fun y H4 => ∃ acc, H4 D = some (.lst acc) ∧ acc.length < sizeLine ∧ Nx (upd H4 D (.lst (acc ++ [y]))) else Nx H3) :=
  lc_range (lo := 0) (n := n) (Made R D H1) ⟨same_new nD, [], upd_same, rfl, fun j y h => by cases h⟩ (fun i H hi h => lc_turn (xs := (List.range n).map fun i => V.int (0 + ((i : Nat) : Int))) R mono nD (by rw [List.length_map, List.length_range]; exact hz) hw (fun i x H2 Qy hx s2 kk => by
      rw [List.getElem?_map] at hx
      obtain ⟨m, h1, rfl⟩ := Option.map_eq_some_iff.mp hx
      obtain ⟨h2, h3⟩ := List.getElem?_eq_some_iff.mp h1
      rw [List.getElem_range] at h3
      rw [List.length_range] at h2
      subst h3
      exact each i H2 Qy h2 s2 kk) (by rw [List.getElem?_map, List.getElem?_range hi]; rfl) h) (fun H ⟨s2, ys, eD, hl, pr⟩ => fin H ys s2 eD hl pr)
section
variable {P : Program} {w : World} {K : PySem.W.Frag} {mg : Str → Option Value} {base : Heap}
def sp_law_totals : Sp := fun vs H Q _ => ∃ (d t : Addr) (x : Str) (kvs : List (Key × V)) (items : List (Str × T3)) (cs : T3), vs = [.ref d, .str x, .ref t] ∧ H d = some (.dK kvs) ∧ CntAt H kvs items ∧ H t = some (tri cs) ∧ items.length ≤ 1000 ∧
  ∀ (H' : Hp) (kvs' : List (Key × V)), Out d H H' → H' d = some (.dK kvs') → CntAt H' kvs' (plusI items x cs) → Q .non H'
theorem ok_law_totals {f : Addr} {fd : FuncData} {dvs : List V} (F : Fn K "_law_totals" s_law_totals dvs f fd) (m_tuple : mg "tuple" = none) (m_zip : mg "zip" = none) : FnOk P w K mg base CX0 1 f fd ["items", "name", "counts"] (sp_law_totals) := by
  refine Fn.okN F sc_law_totals (fun vs H Q E h => ?_) (fun cdv A outer s H vs Q E hr h => ?_)
  · obtain ⟨_, _, _, _, _, _, rfl, _⟩ := h
    rfl
  · obtain ⟨d, t, x, kvs, items, cs, rfl, hd, hc, ht, hl, k⟩ := h
    refine ⟨_, (pss_cons (ps_set (i := 3) sc_law_totals.nd rfl (.inl rfl) (pe_dget2 (hu_of hr) (pv 0) (pv 1) (pe_tup (pa_cons pe_int (pa_cons pe_int (pa_cons pe_int pa_nil)))) ⟨rfl, rfl, rfl, rfl⟩))
      (pss_one (ps_dput (hu_of hr) (pv 0) (pv 1) (pe_callTy call_tuple_of (by rfl) m_tuple (by decide +kernel) (pa_cons (pe_lc (own := [("one", 4), ("two", 5)]) (g := gTup K 2 (gCons (gName 4) (gCons (gName 5) gNil))) (tt := tYes) (by rfl) sc_law_totals.nd (RZ.pi_zipA (by rfl) m_zip (pa_cons (pv 3) (pa_cons (pv 2) pa_nil))) (blkOk_by (own := [("one", 4), ("two", 5)]) (N := ["items", "name", "counts", "before", "one", "two"]) (sc := defScope s_law_totals) (by decide +kernel)) (fun _ _ _ _ _ => (pg_tup rfl (pgs_cons (pg_name (i := 4) sc_law_totals.nd rfl (.inl rfl)) (pgs_cons (pg_name (i := 5) sc_law_totals.nd rfl (.inl rfl)) pgs_nil)))) (fun _ _ _ _ _ => pts_nil) (fun _ _ _ _ _ => (pe_op op_add (pv 4) (pv 5)))) pa_nil)) rfl))), ?_⟩
    refine ⟨.ref d, rfl, d, rfl, .inl ⟨kvs, .inl hd⟩, .str x, rfl, by show 3 ≤ sizeLine; decide, fun T nT => ?_⟩
    have sT := same_new (o := .tup [.int 0, .int 0, .int 0]) nT
    have tT : (upd H T (.tup [.int 0, .int 0, .int 0])) T = some (.tup [.int 0, .int 0, .int 0]) := upd_same
    generalize upd H T (.tup [.int 0, .int 0, .int 0]) = H1 at sT tT ⊢
    have hd1 := sT _ _ hd
    obtain ⟨o, b, c0, ho, ob, hb, hlk⟩ : ∃ (o : Option V) (b : Addr) (c0 : T3), DGet H1 d (.str x) o ∧ o.getD (.ref T) = .ref b ∧ H1 b = some (tri c0) ∧ (lookI items x).getD (0, 0, 0) = c0 := by
      rcases cnt_look x hc with ⟨h1, h2⟩ | ⟨v, c0, h1, h2, t0, rfl, ht0⟩
      · exact ⟨none, T, (0, 0, 0), by rw [← h1]; exact DGet.k (k := Sum.inr x) hd1, rfl, tT, by rw [h2]; rfl⟩
      · exact ⟨some (.ref t0), t0, c0, by rw [← h1]; exact DGet.k (k := Sum.inr x) hd1, rfl, sT _ _ ht0, by rw [h2]; rfl⟩
    refine ⟨o, ho, ?_⟩
    rw [ob]
    have ht1 := sT _ _ ht
    refine ⟨.ref b, rfl, .ref t, rfl, b, t, _, _, rfl, .inr ⟨SqT.of hb, SqT.of ht1, fun C nC => ?_⟩⟩
    refine lc_zipT (K := K) (a := b) (b := t) (xs := [.int (c0.1 : Nat), .int (c0.2.1 : Nat), .int (c0.2.2 : Nat)]) (ys := [.int (cs.1 : Nat), .int (cs.2.1 : Nat), .int (cs.2.2 : Nat)]) rfl (fun i H3 => Same H1 H3 ∧ H3 C = some (.lst (([V.int (((c0.1 : Nat) : Int) + ((cs.1 : Nat) : Int)), .int (((c0.2.1 : Nat) : Int) + ((cs.2.1 : Nat) : Int)), .int (((c0.2.2 : Nat) : Int) + ((cs.2.2 : Nat) : Int))]).take i))) ⟨same_new nC, upd_same⟩ (fun i H3 h => ⟨SqT.of (h.1 _ _ hb), SqT.of (h.1 _ _ ht1)⟩) ?_ ?_
    · rintro i y z T2 H3 hy hz ⟨s3, eC⟩ nT2
      have sT2 := same_new (o := .tup [y, z]) nT2
      have hi : i < 3 := (List.getElem?_eq_some_iff.mp hy).1
      have ey := (tri_at c0 i hi).symm.trans hy
      have ez := (tri_at cs i hi).symm.trans hz
      have ey := (Option.some.inj ey).symm
      have ez := (Option.some.inj ez).symm
      subst ey ez
      refine ⟨T2, _, rfl, SqT.of upd_same, rfl, _, _, rfl, _, _, rfl, rfl, rfl, ?_⟩
      unfold tYes
      show ite (true = true) _ _
      rw [if_pos rfl]
      refine ⟨_, rfl, _, rfl, _, _, rfl, rfl, _, sT2 _ _ eC, ?_, fun b o e => ?_, ?_⟩
      · exact small_line (Nat.le_trans (List.length_take_le _ _) (by omega))
      · rw [upd_ne (ne_of_none e nC)]
        exact sT2 _ _ (s3 _ _ e)
      · rw [upd_same]
        match i, hi with
        | 0, _ => rfl
        | 1, _ => rfl
        | 2, _ => rfl
    · rintro H3 ⟨s3, eC⟩
      refine ⟨C, _, rfl, .inl ⟨SqL.of eC, fun q nq => ?_⟩⟩
      have sq := same_new (o := .tup [V.int (((c0.1 : Nat) : Int) + ((cs.1 : Nat) : Int)), .int (((c0.2.1 : Nat) : Int) + ((cs.2.1 : Nat) : Int)), .int (((c0.2.2 : Nat) : Int) + ((cs.2.2 : Nat) : Int))]) nq
      have s14 := sT.trans (s3.trans sq)
      have hd4 := s14 _ _ hd
      refine ⟨.ref d, rfl, .str x, rfl, d, _, rfl, DPut.k (k := Sum.inr x) hd4 (small_line (by rw [cnt_len hc]; exact hl)), ?_⟩
      have hq : (upd H3 q (.tup [V.int (((c0.1 : Nat) : Int) + ((cs.1 : Nat) : Int)), .int (((c0.2.1 : Nat) : Int) + ((cs.2.1 : Nat) : Int)), .int (((c0.2.2 : Nat) : Int) + ((cs.2.2 : Nat) : Int))])) q = some (tri (sumT3 [c0, cs])) := by
        rw [upd_same, tri_two]
      refine k _ _ (fun b o e n => by rw [upd_ne n]; exact s14 _ _ e) upd_same ?_
      unfold plusI
      rw [hlk]
      refine (cnt_put ⟨q, rfl, hq⟩ (hc.mono fun t c e => s14 _ _ e)).mono fun t c e => ?_
      rw [upd_ne (fun z => by rw [z] at e; exact absurd (hd4.symm.trans e) (fun h => by cases h))]
      exact e
def sp_law_sum : Sp := fun vs H Q _ => ∃ (d : Addr) (ns : List Str) (lk : Str → T3), vs = [.ref d] ∧ SumAt H d ns lk ∧ ns.length ≤ 1000 ∧ ∀ (H' : Hp) (q : Addr), Same H H' → H q = none → H' q = some (tri (sumT3 (ns.map lk))) → Q (.ref q) H'
theorem ok_law_sum {f : Addr} {fd : FuncData} {dvs : List V} (F : Fn K "_law_sum" s_law_sum dvs f fd) (m_range : mg "range" = none) (m_sum : mg "sum" = none) (m_tuple : mg "tuple" = none) : FnOk P w K mg base CX0 1 f fd ["items"] (sp_law_sum) := by
  refine Fn.okN F sc_law_sum (fun vs H Q E h => ?_) (fun cdv A outer s H vs Q E hr h => ?_)
  · obtain ⟨_, _, _, rfl, _⟩ := h
    rfl
  · obtain ⟨d, ns, lk, rfl, hd, hl, k⟩ := h
    refine ⟨_, (pss_one (ps_ret (pe_callTy call_tuple_of (by rfl) m_tuple (by decide +kernel) (pa_cons (pe_lc (own := [("at", 1)]) (g := gName 1) (tt := tYes) (by rfl) sc_law_sum.nd (pi_range1 rfl m_range (pa_cons pe_int pa_nil)) (blkOk_by (own := [("at", 1)]) (N := ["items", "at", "name"]) (sc := defScope s_law_sum) (by decide +kernel)) (fun _ _ _ _ _ => (pg_name (i := 1) sc_law_sum.nd rfl (.inr rfl))) (fun _ _ _ _ _ => pts_nil) (fun _ _ _ _ _ => (pe_callB (cr_sumK (K' := K) rfl rfl) (by rfl) m_sum (by decide +kernel) (pa_cons (pe_lock (pe_lc (own := [("name", 2)]) (g := gName 2) (tt := tYes) (by rfl) sc_law_sum.nd (pi_keys (pv 0)) (blkOk_by (by kernel_rfl)) (fun _ _ _ _ _ => (pg_name (i := 2) sc_law_sum.nd rfl (.inl rfl))) (fun _ _ _ _ _ => pts_nil) (fun _ _ _ _ _ => (pe_ix (ix_tupK (K' := K) rfl) (pe_dget (hu_of hr) (pv 0) (pv 2) (fun _ _ => rfl)) (pv 1) (fun _ _ => rfl))))) pa_nil)))) pa_nil)))), ?_⟩
    obtain ⟨kvs, hd, hc⟩ := hd
    have hkeys : kvs.map (·.1) = ns.map Sum.inr := by
      rw [cnt_keys hc, items_names]
    have hlen : kvs.length = ns.length := by
      rw [cnt_len hc]
      exact List.length_map _
    refine ⟨3, rfl, by decide, by decide, fun D nD => ?_⟩
    refine lc_relR (n := 3) (fun i _ y => y = .int (((ns.map fun x => getC (lk x) i).sum : Nat) : Int)) (fun _ h => h) nD (by decide +kernel) (fun _ => rfl) (fun i H2 Qy hi s2 kk => ?_) fun H2 ys s2 eD hly hR => ?_
    · have hd2 := s2 _ _ hd
      refine ⟨d, .dK kvs, hd2, trivial, fun od => ⟨.ref d, rfl, d, od, rfl, .inl ⟨kvs, upd_same, fun D2 nD2 => ?_⟩⟩⟩
      have dD : d ≠ D2 := fun z => by
        rw [← z, upd_same] at nD2
        cases nD2
      refine lc_keys (fun j H3 => Same (upd H2 d (.frz od (.dK kvs))) H3 ∧ H3 D2 = some (.lst (((ns.take j).map fun x => (((getC (lk x) i : Nat)) : Int)).map V.int))) ⟨same_new nD2, upd_same⟩ (fun j H3 h => h.1 _ _ upd_same) (fun j kx v H3 hk h => ?_) (fun H3 h => ?_)
      · obtain ⟨s3, eD2⟩ := h
        have gi : (kvs.map (·.1))[j]? = some kx := by rw [List.getElem?_map, hk]; rfl
        rw [hkeys, List.getElem?_map] at gi
        obtain ⟨x, gx, rfl⟩ := Option.map_eq_some_iff.mp gi
        obtain ⟨t, hv, ht⟩ := cnt_at hc (List.mem_of_getElem? gx)
        have hj : j < ns.length := (List.getElem?_eq_some_iff.mp gx).1
        have td : t ≠ d := fun z => by
          rw [z, hd] at ht
          cases ht
        have ht3 : H3 t = some (tri (lk x)) := s3 _ _ (by rw [upd_ne td]; exact s2 _ _ ht)
        refine ⟨rfl, ?_⟩
        unfold tYes
        show ite (true = true) _ _
        rw [if_pos rfl]
        refine ⟨.ref d, rfl, .str x, rfl, d, .ref t, rfl, .inl ⟨kvs, Sum.inr x, .inr ⟨od, s3 _ _ upd_same⟩, rfl, hv.symm⟩, .int (0 + (i : Nat)), rfl, t, _, (0 + (i : Nat) : Int), .int (getC (lk x) i : Nat), rfl, rfl, SqT.of ht3, ?_, _, eD2, ?_, fun b o e => ?_, ?_⟩
        · rw [Int.zero_add]
          exact atI_nat (tri_at (lk x) i hi)
        · rw [List.length_map, List.length_map, List.length_take]
          exact small_line (by omega)
        · rw [upd_ne (ne_of_none e nD2)]
          exact s3 _ _ e
        · rw [upd_same, List.take_add_one, gx, List.map_append, List.map_append]
          rfl
      · obtain ⟨s3, eD2⟩ := h
        rw [hlen, List.take_length] at eD2
        refine ⟨s3 _ _ upd_same, D2, _, rfl, SqL.of (by rw [upd_ne dD.symm]; exact eD2), ?_⟩
        have ec : (ns.map fun x => (((getC (lk x) i : Nat)) : Int)).sum = (((ns.map fun x => getC (lk x) i).sum : Nat) : Int) := by
          rw [← cast_sum, List.map_map]
          rfl
        rw [ec]
        exact kk _ _ (lock_same hd2 s3) rfl
    · have ey : ys = [.int (((ns.map fun x => getC (lk x) 0).sum : Nat) : Int), .int (((ns.map fun x => getC (lk x) 1).sum : Nat) : Int), .int (((ns.map fun x => getC (lk x) 2).sum : Nat) : Int)] := by
        match ys, hly, hR with
        | [a, b, c], _, hR => rw [hR 0 a rfl, hR 1 b rfl, hR 2 c rfl]
      refine ⟨D, ys, rfl, .inl ⟨SqL.of eD, fun q nq => k _ q (s2.trans (same_new nq)) (s2.free nq) ?_⟩⟩
      rw [upd_same, ey]
      unfold tri sumT3
      rw [List.map_map, List.map_map, List.map_map]
      rfl
def sp_law_many : Sp := fun vs H Q _ => ∃ (n : Nat) (x : Str), vs = [.int (n : Nat), .str x] ∧ n < 1000000 ∧ x.length ≤ 1000 ∧ Q (.str (numT n x)) H
theorem ok_law_many {f : Addr} {fd : FuncData} {dvs : List V} (F : Fn K "_law_many" s_law_many dvs f fd) (m_int : mg "int" = none) (m_str : mg "str" = none) : FnOk P w K mg base CX0 1 f fd ["number", "word"] (sp_law_many) := by
  refine Fn.okN F sc_law_many (fun vs H Q E h => ?_) (fun cdv A outer s H vs Q E hr h => ?_)
  · obtain ⟨_, _, rfl, _⟩ := h
    rfl
  · obtain ⟨n, x, rfl, hn, hx, k⟩ := h
    refine ⟨_, (pss_one (ps_ret (pe_op op_add_str (pe_op op_add_str (pe_op op_add_str (pe_callTy call_str_int (by rfl) m_str (by decide +kernel) (pa_cons (pv 0) pa_nil)) pe_str) (pv 1)) (pe_op op_repS pe_str (pe_callTy call_int1 (by rfl) m_int (by decide +kernel) (pa_cons (pe_cmpR op_ne (pv 0) pe_int (nomark _)) pa_nil)))))), ?_⟩
    have l1 := natS_len hn
    have ll := log_ok hn
    have e1 : (" " : Str).length = 1 := by decide +kernel
    have e2 : ("s" : Str).length = 1 := by decide +kernel
    have e3 : ("" : Str).length = 0 := by decide +kernel
    have eT : natS n ++ " " ++ x ++ Txt.mul "s" (if (!decide (V.int (n : Nat) = V.int 1)) = true then 1 else 0) = numT n x := by
      rw [mul_s]
      unfold numT
      by_cases h : n = 1
      · rw [if_pos h, decide_eq_true (by rw [h]; rfl)]
        exact some_app
      · rw [if_neg h, decide_eq_false (fun z => h (by have := V.int.inj z; omega))]
        rfl
    have mo : MulOk "s" (if (!decide (V.int (n : Nat) = V.int 1)) = true then 1 else 0) := by
      cases (!decide (V.int (n : Nat) = V.int 1))
      · exact mulOk_s0
      · exact mulOk_s1
    have lm : (Txt.mul "s" (if (!decide (V.int (n : Nat) = V.int 1)) = true then 1 else 0)).length ≤ 1 := by
      rw [mul_s]
      split
      · omega
      · omega
    refine ⟨.int (n : Nat), rfl, (n : Nat), rfl, ll, natS n, " ", rfl, rfl, sz (by omega), .str x, rfl, natS n ++ " ", x, rfl, rfl, sz (by rw [len_app]; omega), .int (n : Nat), rfl, rfl, .inr ⟨_, rfl, "s", _, rfl, rfl, mo, natS n ++ " " ++ x, _, rfl, rfl, sz (by rw [len_app, len_app]; omega), ?_⟩⟩
    rw [eT]
    exact k
end

/-! ### the law's summary -/
theorem app_assoc (x y z : Str) : x ++ y ++ z = x ++ (y ++ z) := ext_tl (by rw [tl_append, tl_append, tl_append, tl_append, List.append_assoc])
theorem lit_passed : (" passed" : Str) ++ ("" : Str) ++ "." = " passed." := ext_tl (by decide +kernel)
theorem lit_and : (" passed" : Str) ++ (" and " : Str) = " passed and " := ext_tl (by decide +kernel)
theorem lit_failed : (" failed" : Str) ++ ("." : Str) = " failed." := ext_tl (by decide +kernel)
theorem lit_idle : (" " : Str) ++ ("had no tests:" : Str) = " had no tests:" := ext_tl (by decide +kernel)
theorem lit_good : (" " : Str) ++ ("passed all tests:" : Str) = " passed all tests:" := ext_tl (by decide +kernel)
theorem lit_bad : (" " : Str) ++ ("had failures:" : Str) = " had failures:" := ext_tl (by decide +kernel)
theorem lit_test : (" " : Str) ++ ("test" : Str) = " test" := ext_tl (by decide +kernel)
theorem lit_tests : (" test" : Str) ++ ("s" : Str) = (" " : Str) ++ ("tests" : Str) := ext_tl (by decide +kernel)
theorem lit_star : Txt.mul "*" 70 = starS := ext_tl (by decide +kernel)
theorem mulOk_star : MulOk "*" 70 := by unfold MulOk; decide +kernel
theorem sum_perm {ns ms : List Str} (p : ns.Perm ms) (lk : Str → T3) : sumT3 (ns.map lk) = sumT3 (ms.map lk) := by
  unfold sumT3
  rw [((p.map lk).map _).sum_nat, ((p.map lk).map fun c : T3 => c.2.1).sum_nat, ((p.map lk).map fun c : T3 => c.2.2).sum_nat]
def rowsTot (b : Bool) (n : Nat) (c : T3) : List Str := (if b = true then totR n c else []) ++ lastR b c
theorem good_row (x : Str) (n : Nat) : " " ++ rj n ++ " test" ++ (if n = 1 then ("" : Str) else "s") ++ " in " ++ x = goodRow x n := by
  unfold goodRow
  by_cases h : n = 1
  · rw [if_pos h, if_pos h, some_app, app_assoc (" " ++ rj n) " " "test", lit_test]
  · rw [if_neg h, if_neg h, app_assoc (" " ++ rj n) " test" "s", lit_tests, ← app_assoc]
theorem join_two (y a b : Str) : Txt.join y [a, b] = a ++ y ++ b := ext_tl (by
  rw [join_eq, tl_join, tl_append, tl_append]
  show joinL (tl y) [tl a, tl b] = _
  rw [joinL_more _ _ (by simp), List.append_assoc]
  rfl)
theorem bad_row (x : Str) (c : T3) : " " ++ Txt.join " of " [rj c.1, rj c.2.1] ++ " in " ++ x = badRow x c := by
  unfold badRow
  rw [join_two, ← app_assoc, ← app_assoc]
section
variable {P : Program} {w : World} {K : PySem.W.Frag} {mg : Str → Option Value} {base : Heap}
def sp_law_last_rows : Sp := fun vs H Q _ => ∃ (d : Addr) (ns : List Str) (lk : Str → T3) (b : Bool) (c : T3), vs = [.ref d, .bl b] ∧ SumAt H d ns lk ∧ ns.length ≤ 60 ∧ sumT3 (ns.map lk) = c ∧ c.1 < 1000000 ∧ c.2.1 < 1000000 ∧ c.2.2 < 1000000 ∧ c.1 ≤ c.2.1 ∧ ∀ (H' : Hp) (L : Addr), Same H H' → H L = none → H' L = some (.lst ((rowsTot b ns.length c).map V.str)) → Q (.ref L) H'
theorem ok_law_last_rows {f : Addr} {fd : FuncData} {dvs : List V} (F : Fn K "_law_last_rows" s_law_last_rows dvs f fd) (O_law_sum : Own P w K mg base "_law_sum" 1 ["items"] [] (sp_law_sum)) (O_law_many : Own P w K mg base "_law_many" 1 ["number", "word"] [] (sp_law_many)) (m_len : mg "len" = none) (m_str : mg "str" = none) : FnOk P w K mg base CX0 2 f fd ["items", "loud"] (sp_law_last_rows) := by
  refine Fn.okN F sc_law_last_rows (fun vs H Q E h => ?_) (fun cdv A outer s H vs Q E hr h => ?_)
  · obtain ⟨_, _, _, _, _, rfl, _⟩ := h
    rfl
  · obtain ⟨d, ns, lk, b, c, rfl, hd, hl, hc, b1, b2, b3, b4, k⟩ := h
    refine ⟨_, (pss_cons (ps_asg (pe_tup (pa_cons (pe_lst pa_nil) (pa_cons (pe_own O_law_sum (hr.mono (by decide)) (by rfl) (pa_cons (pv 0) pa_nil)) pa_nil))) (pg_tup rfl (pgs_cons (pg_name (i := 2) sc_law_last_rows.nd rfl (.inl rfl)) (pgs_cons (pg_tup rfl (pgs_cons (pg_name (i := 3) sc_law_last_rows.nd rfl (.inl rfl)) (pgs_cons (pg_name (i := 4) sc_law_last_rows.nd rfl (.inl rfl)) (pgs_cons (pg_name (i := 5) sc_law_last_rows.nd rfl (.inl rfl)) pgs_nil)))) pgs_nil))))
      (pss_cut (ps_if (pt_val (pv 1))
          (pss_cut (ps_set (i := 6) sc_law_last_rows.nd rfl (.inl rfl) (pe_ifExp (pt_cmpR op_gt (pv 3) pe_int (nomark _)) (pe_op op_add_str (pe_op op_add_str pe_str (pe_callTy call_str_int (by rfl) m_str (by decide +kernel) (pa_cons (pv 3) pa_nil))) pe_str) pe_str))
            (pss_cons (ps_expr (pe_bm PySem.F.plainAttrs_list PySem.F.slot_list_append PySem.F.type_list_append mt_append (pv 2) (pa_cons (pe_op op_add_str (pe_op op_add_str (pe_op op_add_str (pe_own O_law_many (hr.mono (by decide)) (by rfl) (pa_cons (pv 4) (pa_cons pe_str pa_nil))) pe_str) (pe_own O_law_many (hr.mono (by decide)) (by rfl) (pa_cons (pe_callB call_lenD (by rfl) m_len PySem.boot_len (pa_cons (pv 0) pa_nil)) (pa_cons pe_str pa_nil)))) pe_str) pa_nil)))
            (pss_one (ps_expr (pe_bm PySem.F.plainAttrs_list PySem.F.slot_list_append PySem.F.type_list_append mt_append (pv 2) (pa_cons (pe_op op_add_str (pe_op op_add_str (pe_op op_add_str (pe_callTy call_str_int (by rfl) m_str (by decide +kernel) (pa_cons (pe_op op_sub (pv 4) (pv 3)) pa_nil)) pe_str) (pv 6)) pe_str) pa_nil))))))
          pss_nil)
      (pss_cut (ps_if (pt_cmpR op_gt (pv 3) pe_int (nomark _))
          (pss_cut (ps_set (i := 6) sc_law_last_rows.nd rfl (.inl rfl) (pe_ifExp (pt_cmpR op_gt (pv 5) pe_int (nomark _)) (pe_op op_add_str pe_str (pe_own O_law_many (hr.mono (by decide)) (by rfl) (pa_cons (pv 5) (pa_cons pe_str pa_nil)))) pe_str))
            (pss_one (ps_expr (pe_bm PySem.F.plainAttrs_list PySem.F.slot_list_append PySem.F.type_list_append mt_append (pv 2) (pa_cons (pe_op op_add_str (pe_op op_add_str (pe_op op_add_str pe_str (pe_own O_law_many (hr.mono (by decide)) (by rfl) (pa_cons (pv 3) (pa_cons pe_str pa_nil)))) (pv 6)) pe_str) pa_nil)))))
          (pss_one (ps_if (pt_val (pv 1))
                (pss_one (ps_expr (pe_bm PySem.F.plainAttrs_list PySem.F.slot_list_append PySem.F.type_list_append mt_append (pv 2) (pa_cons pe_str pa_nil))))
                pss_nil)))
      (pss_one (ps_ret (pv 2)))))), ?_⟩
    obtain ⟨kvs, hd0, hcnt⟩ := id hd
    have hlen : kvs.length = ns.length := by
      rw [cnt_len hcnt]
      exact List.length_map _
    have l1 := @numT_len c.2.1 "test" b2
    have l2 := @numT_len ns.length "item" (by omega)
    have l3 := @numT_len c.1 "failure" b1
    have l4 := @numT_len c.2.2 "skipped test" b3
    have l5 := natS_len b1
    have l6 := @natS_len (c.2.1 - c.1) (by omega)
    have e1 : ("test" : Str).length = 4 := by decide +kernel
    have e2 : ("item" : Str).length = 4 := by decide +kernel
    have e3 : (" in " : Str).length = 4 := by decide +kernel
    have e4 : ("." : Str).length = 1 := by decide +kernel
    have e5 : ("failure" : Str).length = 7 := by decide +kernel
    have e6 : ("skipped test" : Str).length = 12 := by decide +kernel
    have e7 : (" and " : Str).length = 5 := by decide +kernel
    have e8 : ("***Test Failed*** " : Str).length = 18 := by decide +kernel
    have e9 : (" failed" : Str).length = 7 := by decide +kernel
    have e10 : (" passed" : Str).length = 7 := by decide +kernel
    have e0 : ("" : Str).length = 0 := by decide +kernel
    refine ⟨by decide, fun L nL => ?_⟩
    have sL := same_new (o := .lst []) nL
    refine ⟨.ref d, rfl, d, ns, lk, rfl, hd.same sL, by omega, fun H1 q s1 nq eq => ?_⟩
    rw [hc] at eq
    refine ⟨(show 2 ≤ sizeLine by decide), fun T nT => ?_⟩
    have sT := same_new (o := .tup [.ref L, .ref q]) nT
    have s2 := sL.trans (s1.trans sT)
    have eL : (upd H1 T (.tup [.ref L, .ref q])) L = some (.lst []) := sT _ _ (s1 _ _ upd_same)
    refine ⟨T, _, rfl, SqT.of upd_same, rfl, _, _, rfl, _, _, rfl, q, _, rfl, SqT.of (sT _ _ eq), rfl, _, _, rfl, _, _, rfl, _, _, rfl, rfl, rfl, ?_⟩
    generalize upd H1 T (.tup [.ref L, .ref q]) = H2 at s2 eL ⊢
    have put : ∀ {H3 : Hp} {o : HO}, Same H H3 → Same H (upd H3 L o) := fun {H3 o} s b u e => by
      rw [upd_ne (ne_of_none e nL)]
      exact s _ _ e
    have gt0 : ∀ n : Nat, decide (((n : Nat) : Int) > 0) = !decide (n = 0) := fun n => by
      rw [Bool.eq_iff_iff, decide_eq_true_iff, Bool.not_eq_true', decide_eq_false_iff_not]
      omega
    refine ⟨fun σ H3 => (∃ v6 : Option V, σ = [some (.ref d), some (.bl b), some (.ref L), some (.int (c.1 : Nat)), some (.int (c.2.1 : Nat)), some (.int (c.2.2 : Nat)), v6]) ∧ Same H H3 ∧ H3 L = some (.lst ((if b = true then totR ns.length c else []).map V.str)), ?_, ?_⟩
    · refine ⟨.bl b, rfl, _, rfl, ?_⟩
      cases b with
      | false => exact iteF ⟨⟨_, rfl⟩, s2, eL⟩
      | true =>
        have ed : ((c.2.1 : Nat) : Int) - ((c.1 : Nat) : Int) = (((c.2.1 - c.1 : Nat)) : Int) := by omega
        have lg := log_ok (show c.2.1 - c.1 < 1000000 by omega)
        refine iteT ⟨fun σ H3 => ∃ rest : Str, σ = [some (.ref d), some (.bl true), some (.ref L), some (.int (c.1 : Nat)), some (.int (c.2.1 : Nat)), some (.int (c.2.2 : Nat)), some (.str rest)] ∧ H3 = H2 ∧ rest.length ≤ 2000 ∧ natS (c.2.1 - c.1) ++ " passed" ++ rest ++ "." = (if c.1 = 0 then natS c.2.1 ++ " passed." else natS (c.2.1 - c.1) ++ " passed and " ++ natS c.1 ++ " failed."), ?_, ?_⟩
        · refine ⟨.int (c.1 : Nat), rfl, _, _, rfl, rfl, _, rfl, ?_⟩
          rw [gt0]
          by_cases hz : c.1 = 0
          · rw [decide_eq_true hz]
            refine iteF ⟨"", rfl, rfl, by omega, ?_⟩
            rw [if_pos hz, hz, Nat.sub_zero, app_assoc (natS c.2.1), app_assoc (natS c.2.1), lit_passed]
          · rw [decide_eq_false hz]
            refine iteT ⟨.int (c.1 : Nat), rfl, (c.1 : Nat), rfl, log_ok b1, _, _, rfl, rfl, sz (by have : (Str.ofString (toString ((c.1 : Nat) : Int))).length ≤ 1921 := l5; omega), _, _, rfl, rfl, sz (by have : (Str.ofString (toString ((c.1 : Nat) : Int))).length ≤ 1921 := l5; rw [len_app]; omega), " and " ++ natS c.1 ++ " failed", rfl, rfl, by rw [len_app, len_app]; omega, ?_⟩
            rw [if_neg hz, ← lit_and, ← lit_failed]
            simp only [app_assoc]
        · rintro σ H3 ⟨rest, rfl, rfl, lr, er⟩
          refine ⟨.ref L, rfl, .inl ⟨rfl, _, SqL.of eL⟩, .int (c.2.1 : Nat), rfl, c.2.1, "test", rfl, b2, by omega, numT c.2.1 "test", " in ", rfl, rfl, sz (by omega), .ref d, rfl, d, kvs, rfl, s2 _ _ hd0, kvs.length, "item", rfl, by omega, by omega, ?_⟩
          rw [hlen]
          refine ⟨numT c.2.1 "test" ++ " in ", numT ns.length "item", rfl, rfl, sz (by rw [len_app]; omega), numT c.2.1 "test" ++ " in " ++ numT ns.length "item", ".", rfl, rfl, sz (by rw [len_app, len_app]; omega), L, _, _, rfl, rfl, eL, by decide, ?_⟩
          have h1 : (upd H3 L (.lst ([] ++ [V.str (numT c.2.1 "test" ++ " in " ++ numT ns.length "item" ++ ".")]))) L = some (.lst [V.str (numT c.2.1 "test" ++ " in " ++ numT ns.length "item" ++ ".")]) := upd_same
          have s4 := put (o := .lst ([] ++ [V.str (numT c.2.1 "test" ++ " in " ++ numT ns.length "item" ++ ".")])) s2
          generalize upd H3 L (.lst ([] ++ [V.str (numT c.2.1 "test" ++ " in " ++ numT ns.length "item" ++ ".")])) = H4 at h1 s4 ⊢
          refine ⟨.ref L, rfl, .inl ⟨rfl, _, SqL.of h1⟩, .int (c.2.1 : Nat), rfl, .int (c.1 : Nat), rfl, _, _, rfl, rfl, (((c.2.1 - c.1 : Nat)) : Int), congrArg (fun z => [V.int z]) ed, lg, natS (c.2.1 - c.1), " passed", rfl, rfl, sz (by omega), .str rest, rfl, natS (c.2.1 - c.1) ++ " passed", rest, rfl, rfl, sz (by rw [len_app]; omega), natS (c.2.1 - c.1) ++ " passed" ++ rest, ".", rfl, rfl, sz (by rw [len_app, len_app]; omega), L, _, _, rfl, rfl, h1, by show 1 < sizeLine; decide, ?_⟩
          rw [er]
          exact ⟨⟨_, rfl⟩, put s4, upd_same⟩
    · rintro σ H3 ⟨⟨v6, rfl⟩, s3, eL3⟩
      generalize hrows : (if b = true then totR ns.length c else []) = rows at eL3
      have lrows : rows.length ≤ 2 := by
        rw [← hrows]
        split
        · exact Nat.le_refl _
        · exact Nat.zero_le _
      unfold rowsTot at k
      rw [hrows] at k
      refine ⟨fun σ H4 => (∃ v6 : Option V, σ = [some (.ref d), some (.bl b), some (.ref L), some (.int (c.1 : Nat)), some (.int (c.2.1 : Nat)), some (.int (c.2.2 : Nat)), v6]) ∧ Same H H4 ∧ H4 L = some (.lst ((rows ++ lastR b c).map V.str)), ?_, ?_⟩
      · refine ⟨.int (c.1 : Nat), rfl, _, _, rfl, rfl, _, rfl, ?_⟩
        rw [gt0]
        by_cases hz : c.1 = 0
        · rw [decide_eq_true hz]
          refine iteF ⟨.bl b, rfl, _, rfl, ?_⟩
          unfold lastR
          rw [if_pos hz]
          cases b with
          | false =>
            refine iteF ⟨⟨_, rfl⟩, s3, ?_⟩
            rw [if_neg Bool.false_ne_true, List.append_nil]
            exact eL3
          | true =>
            refine iteT ⟨.ref L, rfl, .inl ⟨rfl, _, SqL.of eL3⟩, L, _, _, rfl, rfl, eL3, by rw [List.length_map]; exact small_line (by omega), ⟨_, rfl⟩, put s3, ?_⟩
            rw [if_pos rfl, upd_same, List.map_append]
            rfl
        · rw [decide_eq_false hz]
          refine iteT ⟨fun σ H4 => ∃ rest : Str, σ = [some (.ref d), some (.bl b), some (.ref L), some (.int (c.1 : Nat)), some (.int (c.2.1 : Nat)), some (.int (c.2.2 : Nat)), some (.str rest)] ∧ H4 = H3 ∧ rest.length ≤ 2000 ∧ rest = (if c.2.2 = 0 then ("" : Str) else " and " ++ numT c.2.2 "skipped test"), ?_, ?_⟩
          · refine ⟨.int (c.2.2 : Nat), rfl, _, _, rfl, rfl, _, rfl, ?_⟩
            rw [gt0]
            by_cases hs : c.2.2 = 0
            · rw [decide_eq_true hs]
              exact iteF ⟨"", rfl, rfl, by omega, (if_pos hs).symm⟩
            · rw [decide_eq_false hs]
              exact iteT ⟨.int (c.2.2 : Nat), rfl, c.2.2, "skipped test", rfl, b3, by omega, _, _, rfl, rfl, sz (by omega), " and " ++ numT c.2.2 "skipped test", rfl, rfl, by rw [len_app]; omega, (if_neg hs).symm⟩
          · rintro σ H4 ⟨rest, rfl, rfl, lr, er⟩
            refine ⟨.ref L, rfl, .inl ⟨rfl, _, SqL.of eL3⟩, .int (c.1 : Nat), rfl, c.1, "failure", rfl, b1, by omega, "***Test Failed*** ", numT c.1 "failure", rfl, rfl, sz (by omega), .str rest, rfl, "***Test Failed*** " ++ numT c.1 "failure", rest, rfl, rfl, sz (by rw [len_app]; omega), "***Test Failed*** " ++ numT c.1 "failure" ++ rest, ".", rfl, rfl, sz (by rw [len_app, len_app]; omega), L, _, _, rfl, rfl, eL3, by rw [List.length_map]; exact small_line (by omega), ⟨_, rfl⟩, put s3, ?_⟩
            unfold lastR
            rw [if_neg hz, ← er, upd_same, List.map_append]
            rfl
      · rintro σ H4 ⟨⟨v6, rfl⟩, s4, eL4⟩
        exact ⟨.ref L, rfl, k _ L s4 nL eL4⟩
end

/-! ### the law's whole summary -/
theorem sum_get {H : Hp} {d : Addr} {ms : List Str} {lk : Str → T3} (h : SumAt H d ms lk) {x : Str} (hx : x ∈ ms) : ∃ t, DGet H d (.str x) (some (.ref t)) ∧ H t = some (tri (lk x)) := by
  obtain ⟨kvs, hd, hc⟩ := h
  obtain ⟨t, hv, ht⟩ := cnt_at hc hx
  refine ⟨t, ?_, ht⟩
  rw [← hv]
  exact DGet.k (k := Sum.inr x) hd
def SumJ (H0 : Hp) (d : Addr) (b : Bool) (is gs bs rows : List Str) : L2.St → Hp → Prop := fun σ H1 => ∃ (I G B R : Addr) (v6 v7 v8 v9 v10 : Option V), σ = [some (.ref d), some (.bl b), some (.ref I), some (.ref G), some (.ref B), some (.ref R), v6, v7, v8, v9, v10] ∧ Same H0 H1 ∧ H0 R = none ∧ H1 I = some (.lst (is.map V.str)) ∧ H1 G = some (.lst (gs.map V.str)) ∧ H1 B = some (.lst (bs.map V.str)) ∧ H1 R = some (.lst (rows.map V.str)) ∧ I ≠ R ∧ G ≠ R ∧ B ≠ R
theorem put_ok {H0 H1 : Hp} {R : Addr} {o : HO} (s : Same H0 H1) (n : H0 R = none) : Same H0 (upd H1 R o) := fun b u e => by
  rw [upd_ne (ne_of_none e n)]
  exact s _ _ e
theorem filter_str {p : V → Bool} {pN : Str → Bool} (h : ∀ x, p (.str x) = pN x) : ∀ ns : List Str, (ns.map V.str).filter p = (ns.filter pN).map V.str
  | [] => rfl
  | x :: r => by
    rw [List.map_cons, List.filter_cons, List.filter_cons, h, filter_str h r]
    split <;> rfl
def onS (pN : Str → Bool) : V → Bool
  | .str x => pN x
  | _ => false
theorem gt_nat (n : Nat) : decide (((n : Nat) : Int) > 0) = decide (0 < n) := by
  rw [Bool.eq_iff_iff, decide_eq_true_iff, decide_eq_true_iff]
  omega
theorem eq_nat (n : Nat) : decide (V.int (((n : Nat)) : Int) = V.int 0) = (n == 0) := by
  rw [Bool.eq_iff_iff, decide_eq_true_iff, beq_iff_eq]
  exact ⟨fun z => by have := V.int.inj z; omega, fun z => by rw [z]; rfl⟩
theorem head_cons {h : Str} {rows : List Str} (e : rows.isEmpty = false) : headT h rows = (numT rows.length "item" ++ " " ++ h) :: rows := by
  unfold headT
  rw [e, if_neg Bool.false_ne_true]
theorem head_nil {h : Str} {rows : List Str} (e : rows.isEmpty = true) : headT h rows = [] := by
  unfold headT
  rw [if_pos e]
section
variable {P : Program} {w : World} {K : PySem.W.Frag} {mg : Str → Option Value} {base : Heap}
def sp_law_summary : Sp := fun vs H Q _ => ∃ (d : Addr) (ms : List Str) (lk : Str → T3) (b : Bool), vs = [.ref d, .bl b] ∧ SumAt H d ms lk ∧ ms.length ≤ 60 ∧ ms.Nodup ∧ (∀ ys : List Str, ys.Perm ms → sortedS ys = true → NmOk ys lk) ∧ ∀ (H' : Hp) (ys : List Str), ys.Perm ms → sortedS ys = true → Same H H' → Q (.str (sumS ys lk b)) H'
theorem ok_law_summary {f : Addr} {fd : FuncData} {dvs : List V} (F : Fn K "_law_summary" s_law_summary dvs f fd) (O_law_many : Own P w K mg base "_law_many" 1 ["number", "word"] [] (sp_law_many)) (O_law_last_rows : Own P w K mg base "_law_last_rows" 2 ["items", "loud"] [] (sp_law_last_rows)) (m_int : mg "int" = none) (m_len : mg "len" = none) (m_range : mg "range" = none) (m_sorted : mg "sorted" = none) (m_str : mg "str" = none) : FnOk P w K mg base CX0 3 f fd ["items", "loud"] (sp_law_summary) := by
  refine Fn.okN F sc_law_summary (fun vs H Q E h => ?_) (fun cdv A outer s H vs Q E hr h => ?_)
  · obtain ⟨_, _, _, _, rfl, _⟩ := h
    rfl
  · obtain ⟨d, ms, lk, b, rfl, hd, hl, nd, ok, k⟩ := h
    refine ⟨_, (pss_cons (ps_setLc (i := 2) (own := [("name", 6)]) (g := gName 6) (by rfl) sc_law_summary.nd rfl rfl (sw_true rfl rfl rfl (by decide +kernel)) (pi_list (pe_callB (call_sortedD rfl) (by rfl) m_sorted (by decide +kernel) (pa_cons (pv 0) pa_nil))) (blkOk_by (own := [("name", 6)]) (N := ["items", "loud", "idle", "good", "bad", "rows", "name", "tried", "counts", "row", "at"]) (sc := defScope s_law_summary) (by decide +kernel)) (fun _ _ _ _ _ => (pg_name (i := 6) sc_law_summary.nd rfl (.inl rfl))) (fun _ _ _ _ _ => (pts_one (pt_cmpR op_eq (pe_ix (ix_tupK (K' := K) rfl) (pe_dget (hu_of hr) (pv 0) (pv 6) (fun _ _ => rfl)) pe_int (fun _ _ => rfl)) pe_int (nomark _)))) (fun _ _ _ _ _ => (pv 6)))
      (pss_cons (ps_setLc (i := 3) (own := [("name", 6)]) (g := gName 6) (by rfl) sc_law_summary.nd rfl rfl (sw_true rfl rfl rfl (by decide +kernel)) (pi_list (pe_callB (call_sortedD rfl) (by rfl) m_sorted (by decide +kernel) (pa_cons (pv 0) pa_nil))) (blkOk_by (own := [("name", 6)]) (N := ["items", "loud", "idle", "good", "bad", "rows", "name", "tried", "counts", "row", "at"]) (sc := defScope s_law_summary) (by decide +kernel)) (fun _ _ _ _ _ => (pg_name (i := 6) sc_law_summary.nd rfl (.inl rfl))) (fun _ _ _ _ _ => (pts_one (PW.pt (pw_and (pt_cmpR op_gt (pe_ix (ix_tupK (K' := K) rfl) (pe_dget (hu_of hr) (pv 0) (pv 6) (fun _ _ => rfl)) pe_int (fun _ _ => rfl)) pe_int (nomark _)) (pw_and1 (pt_cmpR op_eq (pe_ix (ix_tupK (K' := K) rfl) (pe_dget (hu_of hr) (pv 0) (pv 6) (fun _ _ => rfl)) pe_int (fun _ _ => rfl)) pe_int (nomark _))))))) (fun _ _ _ _ _ => (pv 6)))
      (pss_cons (ps_par (i := 4) (j := 5) (by rfl) sc_law_summary.nd rfl rfl (by decide) rfl rfl (pa_cons (pe_lc (own := [("name", 6)]) (g := gName 6) (by rfl) sc_law_summary.nd (pi_list (pe_callB (call_sortedD rfl) (by rfl) m_sorted (by decide +kernel) (pa_cons (pv 0) pa_nil))) (blkOk_by (own := [("name", 6)]) (N := ["items", "loud", "idle", "good", "bad", "rows", "name", "tried", "counts", "row", "at"]) (sc := defScope s_law_summary) (by decide +kernel)) (fun _ _ _ _ _ => (pg_name (i := 6) sc_law_summary.nd rfl (.inl rfl))) (fun _ _ _ _ _ => (pts_one (pt_cmpR op_gt (pe_ix (ix_tupK (K' := K) rfl) (pe_dget (hu_of hr) (pv 0) (pv 6) (fun _ _ => rfl)) pe_int (fun _ _ => rfl)) pe_int (nomark _)))) (fun _ _ _ _ _ => (pv 6))) (pa_cons (pe_lst pa_nil) pa_nil)) (by rfl))
      (pss_cut (ps_if (PW.pt (pw_and (pt_val (pv 1)) (pw_and1 (pt_cmpR (op_neE hr.units) (pv 2) (pe_lst pa_nil) (nomark _)))))
          (pss_one (ps_set (i := 5) sc_law_summary.nd rfl (.inl rfl) (pe_op op_cat (pe_lst (pa_cons (pe_op op_add_str (pe_own O_law_many (hr.mono (by decide)) (by rfl) (pa_cons (pe_callB call_len_seq (by rfl) m_len PySem.boot_len (pa_cons (pv 2) pa_nil)) (pa_cons pe_str pa_nil))) pe_str) pa_nil)) (pe_lc (own := [("name", 6)]) (g := gName 6) (tt := tYes) (by rfl) sc_law_summary.nd (pi_list (pv 2)) (blkOk_by (own := [("name", 6)]) (N := ["items", "loud", "idle", "good", "bad", "rows", "name", "tried", "counts", "row", "at"]) (sc := defScope s_law_summary) (by decide +kernel)) (fun _ _ _ _ _ => (pg_name (i := 6) sc_law_summary.nd rfl (.inl rfl))) (fun _ _ _ _ _ => pts_nil) (fun _ _ _ _ _ => (pe_op op_add_str pe_str (pv 6)))))))
          pss_nil)
      (pss_cut (ps_if (PW.pt (pw_and (pt_val (pv 1)) (pw_and1 (pt_cmpR (op_neE hr.units) (pv 3) (pe_lst pa_nil) (nomark _)))))
          (pss_cons (ps_expr (pe_bm PySem.F.plainAttrs_list PySem.F.slot_list_append PySem.F.type_list_append mt_append (pv 5) (pa_cons (pe_op op_add_str (pe_own O_law_many (hr.mono (by decide)) (by rfl) (pa_cons (pe_callB call_len_seq (by rfl) m_len PySem.boot_len (pa_cons (pv 3) pa_nil)) (pa_cons pe_str pa_nil))) pe_str) pa_nil)))
            (pss_one (ps_for PassesOwn.never rfl (pi_list (pv 3)) (pg_name (i := 6) sc_law_summary.nd rfl (.inr rfl))
                (pss_cons (ps_set (i := 7) sc_law_summary.nd rfl (.inl rfl) (pe_ix ix_tup (pe_dget (hu_of hr) (pv 0) (pv 6) (fun _ _ => rfl)) pe_int (fun _ _ => rfl)))
                  (pss_one (ps_expr (pe_bm PySem.F.plainAttrs_list PySem.F.slot_list_append PySem.F.type_list_append mt_append (pv 5) (pa_cons (pe_op op_add_str (pe_op op_add_str (pe_op op_add_str (pe_op op_add_str (pe_op op_add_str pe_str (pe_m1 PySem.F.slot_str_rjust PySem.F.type_str_rjust mt_rjust (pe_callTy call_str_int (by rfl) m_str (by decide +kernel) (pa_cons (pv 7) pa_nil)) pe_int)) pe_str) (pe_op op_repS pe_str (pe_callTy call_int1 (by rfl) m_int (by decide +kernel) (pa_cons (pe_cmpR op_ne (pv 7) pe_int (nomark _)) pa_nil)))) pe_str) (pv 6)) pa_nil))))))))
          pss_nil)
      (pss_cut (ps_if (pt_cmpR (op_neE hr.units) (pv 4) (pe_lst pa_nil) (nomark _))
          (pss_cons (ps_expr (pe_bm PySem.F.plainAttrs_list PySem.F.slot_list_extend PySem.F.type_list_extend mt_extend (pv 5) (pa_cons (pe_lst (pa_cons (pe_op op_repS pe_str pe_int) (pa_cons (pe_op op_add_str (pe_own O_law_many (hr.mono (by decide)) (by rfl) (pa_cons (pe_callB call_len_seq (by rfl) m_len PySem.boot_len (pa_cons (pv 4) pa_nil)) (pa_cons pe_str pa_nil))) pe_str) pa_nil))) pa_nil)))
            (pss_one (ps_for PassesOwn.never rfl (pi_list (pv 4)) (pg_name (i := 6) sc_law_summary.nd rfl (.inr rfl))
                (pss_cons (ps_setLc (i := 8) (own := [("at", 10)]) (g := gName 10) (tt := tYes) (by rfl) sc_law_summary.nd rfl rfl (sw_true rfl rfl rfl (by decide +kernel)) (pi_range1 rfl m_range (pa_cons pe_int pa_nil)) (blkOk_by (own := [("at", 10)]) (N := ["items", "loud", "idle", "good", "bad", "rows", "name", "tried", "counts", "row", "at"]) (sc := defScope s_law_summary) (by decide +kernel)) (fun _ _ _ _ _ => (pg_name (i := 10) sc_law_summary.nd rfl (.inl rfl))) (fun _ _ _ _ _ => pts_nil) (fun _ _ _ _ _ => (pe_m1 PySem.F.slot_str_rjust PySem.F.type_str_rjust mt_rjust (pe_callTy call_str_int (by rfl) m_str (by decide +kernel) (pa_cons (pe_ix (ix_tupK (K' := K) rfl) (pe_dget (hu_of hr) (pv 0) (pv 6) (fun _ _ => rfl)) (pv 10) (fun _ _ => rfl)) pa_nil)) pe_int)))
                  (pss_one (ps_expr (pe_bm PySem.F.plainAttrs_list PySem.F.slot_list_append PySem.F.type_list_append mt_append (pv 5) (pa_cons (pe_op op_add_str (pe_op op_add_str (pe_op op_add_str pe_str (pe_m1 PySem.F.slot_str_join PySem.F.type_str_join mt_join pe_str (pv 8))) pe_str) (pv 6)) pa_nil))))))))
          pss_nil)
      (pss_one (ps_ret (pe_m1 PySem.F.slot_str_join PySem.F.type_str_join mt_join pe_str (pe_lc (own := [("row", 9)]) (g := gName 9) (tt := tYes) (by rfl) sc_law_summary.nd (pi_list (pe_op op_cat (pv 5) (pe_own O_law_last_rows (hr.mono (by decide)) (by rfl) (pa_cons (pv 0) (pa_cons (pv 1) pa_nil))))) (blkOk_by (own := [("row", 9)]) (N := ["items", "loud", "idle", "good", "bad", "rows", "name", "tried", "counts", "row", "at"]) (sc := defScope s_law_summary) (by decide +kernel)) (fun _ _ _ _ _ => (pg_name (i := 9) sc_law_summary.nd rfl (.inl rfl))) (fun _ _ _ _ _ => pts_nil) (fun _ _ _ _ _ => (pe_op op_add_str (pv 9) pe_str)))))))))))), ?_⟩
    obtain ⟨kvs, hdk, hc⟩ := id hd
    have hkeys : kvs.map (·.1) = ms.map Sum.inr := by
      rw [cnt_keys hc, items_names]
    have n64 : ms.length < 64 := by omega
    refine ⟨.ref d, rfl, d, kvs, ms, rfl, .inl hdk, hkeys, n64, fun ys L pm so nL => ⟨L, rfl, ⟨_, SqL.of upd_same⟩, fun I nI => ?_⟩⟩
    have okY := ok ys pm so
    have hly := okY.len
    have sL := same_new (o := .lst (ys.map V.str)) nL
    have sz1 : (ys.map V.str).length < sizeLine := by
      rw [List.length_map]
      exact small_line (by omega)
    refine lc_listF (K := K) (onS fun x => (lk x).2.1 == 0) (SqL.of upd_same) nI sz1 (fun _ => rfl) (fun _ => rfl) (fun i v H2 Qb hx s2 kq => ?_) fun H2 s2 eI => ?_
    · obtain ⟨x, rfl, gx⟩ := str_at hx
      have mx : x ∈ ms := pm.mem_iff.mp (List.mem_of_getElem? gx)
      obtain ⟨t, dg, ht⟩ := sum_get (hd.same (sL.trans s2)) mx
      refine ⟨.ref d, rfl, .str x, rfl, d, .ref t, rfl, dg, t, _, 1, .int ((lk x).2.1 : Nat), rfl, rfl, SqT.of ht, rfl, rfl, _, rfl, ?_⟩
      rw [eq_nat]
      exact kq H2 (fun _ _ e => e)
    rw [filter_str (pN := fun x => (lk x).2.1 == 0) (fun _ => rfl)] at eI
    have s02 := sL.trans s2
    refine ⟨.ref d, rfl, d, kvs, ms, rfl, .inl (s02 _ _ hdk), hkeys, n64, fun ys2 L2 pm2 so2 nL2 => ⟨L2, rfl, ⟨_, SqL.of upd_same⟩, fun G nG => ?_⟩⟩
    have e2 : ys2 = ys := sorted_one so2 so (pm2.trans pm.symm)
    subst e2
    have sL2 := same_new (o := .lst (ys2.map V.str)) nL2
    refine lc_listF (K := K) (onS fun x => decide (0 < (lk x).2.1) && ((lk x).1 == 0)) (SqL.of upd_same) nG sz1 (fun _ => rfl) (fun _ => rfl) (fun i v H3 Qb hx s3 kq => ?_) fun H3 s3 eG => ?_
    · obtain ⟨x, rfl, gx⟩ := str_at hx
      have mx : x ∈ ms := pm.mem_iff.mp (List.mem_of_getElem? gx)
      obtain ⟨t, dg, ht⟩ := sum_get (hd.same (s02.trans (sL2.trans s3))) mx
      have kq : Qb (decide (0 < (lk x).2.1) && ((lk x).1 == 0)) H3 := kq H3 (fun _ _ e => e)
      refine ⟨.ref d, rfl, .str x, rfl, d, .ref t, rfl, dg, t, _, 1, .int ((lk x).2.1 : Nat), rfl, rfl, SqT.of ht, rfl, _, _, rfl, rfl, _, rfl, ?_⟩
      rw [gt_nat]
      cases h1 : decide (0 < (lk x).2.1) with
      | false =>
        rw [h1] at kq
        exact iteF kq
      | true =>
        rw [h1] at kq
        refine iteT ⟨.ref d, rfl, .str x, rfl, d, .ref t, rfl, dg, t, _, 0, .int ((lk x).1 : Nat), rfl, rfl, SqT.of ht, rfl, rfl, _, rfl, ?_⟩
        rw [eq_nat]
        exact kq
    rw [filter_str (pN := fun x => decide (0 < (lk x).2.1) && ((lk x).1 == 0)) (fun _ => rfl)] at eG
    have s03 := s02.trans (sL2.trans s3)
    have eI3 := sL2.trans s3 _ _ eI
    refine ⟨.ref d, rfl, d, kvs, ms, rfl, .inl (s03 _ _ hdk), hkeys, n64, fun ys3 L3 pm3 so3 nL3 => ⟨L3, rfl, ⟨_, SqL.of upd_same⟩, fun B nB => ?_⟩⟩
    have e3 : ys3 = ys2 := sorted_one so3 so (pm3.trans pm.symm)
    subst e3
    have sL3 := same_new (o := .lst (ys3.map V.str)) nL3
    refine lc_listF (K := K) (onS fun x => decide (0 < (lk x).1)) (SqL.of upd_same) nB sz1 (fun _ => rfl) (fun _ => rfl) (fun i v H4 Qb hx s4 kq => ?_) fun H4 s4 eB => ?_
    · obtain ⟨x, rfl, gx⟩ := str_at hx
      have mx : x ∈ ms := pm.mem_iff.mp (List.mem_of_getElem? gx)
      obtain ⟨t, dg, ht⟩ := sum_get (hd.same (s03.trans (sL3.trans s4))) mx
      refine ⟨.ref d, rfl, .str x, rfl, d, .ref t, rfl, dg, t, _, 0, .int ((lk x).1 : Nat), rfl, rfl, SqT.of ht, rfl, _, _, rfl, rfl, _, rfl, ?_⟩
      rw [gt_nat]
      exact kq H4 (fun _ _ e => e)
    rw [filter_str (pN := fun x => decide (0 < (lk x).1)) (fun _ => rfl)] at eB
    have s04 := s03.trans (sL3.trans s4)
    have eI4 : H4 I = some (.lst ((idleN ys3 lk).map V.str)) := sL3.trans s4 _ _ eI3
    have eG4 : H4 G = some (.lst ((goodN ys3 lk).map V.str)) := sL3.trans s4 _ _ eG
    have eB4 : H4 B = some (.lst ((badN ys3 lk).map V.str)) := eB
    refine ⟨by decide, fun R nR => ?_⟩
    have lI : (idleN ys3 lk).length ≤ 60 := Nat.le_trans (List.length_filter_le _ _) hly
    have lG : (goodN ys3 lk).length ≤ 60 := Nat.le_trans (List.length_filter_le _ _) hly
    have lB : (badN ys3 lk).length ≤ 60 := Nat.le_trans (List.length_filter_le _ _) hly
    have sR := same_new (o := .lst []) nR
    have w1 : ("item" : Str).length = 4 := by decide +kernel
    have w2 : (" " : Str).length = 1 := by decide +kernel
    have w3 : ("    " : Str).length = 4 := by decide +kernel
    have w4 : (" had no tests:" : Str).length = 14 := by decide +kernel
    have w5 : (" passed all tests:" : Str).length = 18 := by decide +kernel
    have w6 : (" had failures:" : Str).length = 14 := by decide +kernel
    have w7 : (" in " : Str).length = 4 := by decide +kernel
    have w8 : (" test" : Str).length = 5 := by decide +kernel
    have w9 : (" of " : Str).length = 4 := by decide +kernel
    have nmI : ∀ x ∈ idleN ys3 lk, x ∈ ms ∧ x.length ≤ 1000 := fun x hx => ⟨pm.mem_iff.mp (List.mem_filter.mp hx).1, okY.name x (List.mem_filter.mp hx).1⟩
    have nmG : ∀ x ∈ goodN ys3 lk, x ∈ ms ∧ x.length ≤ 1000 ∧ (lk x).2.1 < 2000 := fun x hx => ⟨pm.mem_iff.mp (List.mem_filter.mp hx).1, okY.name x (List.mem_filter.mp hx).1, (okY.one x (List.mem_filter.mp hx).1).2.1⟩
    have nmB : ∀ x ∈ badN ys3 lk, x ∈ ms ∧ x.length ≤ 1000 ∧ (lk x).1 < 2000 ∧ (lk x).2.1 < 2000 := fun x hx => ⟨pm.mem_iff.mp (List.mem_filter.mp hx).1, okY.name x (List.mem_filter.mp hx).1, (okY.one x (List.mem_filter.mp hx).1).1, (okY.one x (List.mem_filter.mp hx).1).2.1⟩
    refine ⟨_, _, rfl, SumJ H d b (idleN ys3 lk) (goodN ys3 lk) (badN ys3 lk) (if b = true then idleR ys3 lk else []), ?_, ?_⟩
    · refine ⟨.bl b, rfl, _, rfl, ?_⟩
      cases b with
      | false => exact iteF ⟨I, G, B, R, _, _, _, _, _, rfl, s04.trans sR, s04.free nR, sR _ _ eI4, sR _ _ eG4, sR _ _ eB4, upd_same, ne_of_none eI4 nR, ne_of_none eG4 nR, ne_of_none eB4 nR⟩
      | true =>
        refine iteT ⟨.ref I, rfl, by decide, fun E nE => ?_⟩
        have sE := same_new (o := .lst []) nE
        refine ⟨I, E, _, rfl, rfl, SqL.of (sE _ _ (sR _ _ eI4)), SqL.of upd_same, _, rfl, ?_⟩
        have sE4 := sR.trans sE
        cases hne : (idleN ys3 lk).isEmpty with
        | true =>
          rw [show ((idleN ys3 lk).map V.str).isEmpty = _ from List.isEmpty_map.trans hne]
          refine iteF ⟨I, G, B, R, _, _, _, _, _, rfl, s04.trans sE4, s04.free nR, sE4 _ _ eI4, sE4 _ _ eG4, sE4 _ _ eB4, ?_, ne_of_none eI4 nR, ne_of_none eG4 nR, ne_of_none eB4 nR⟩
          rw [if_pos rfl]
          unfold idleR
          rw [head_nil (by rw [List.isEmpty_map]; exact hne)]
          exact sE _ _ upd_same
        | false =>
          rw [show ((idleN ys3 lk).map V.str).isEmpty = _ from List.isEmpty_map.trans hne]
          have eI5 := sE4 _ _ eI4
          have eG5 := sE4 _ _ eG4
          have eB5 := sE4 _ _ eB4
          have s05 := s04.trans sE4
          have lq := @numT_len (idleN ys3 lk).length "item" (by omega)
          generalize upd (upd H4 R (.lst [])) E (.lst []) = H5 at eI5 eG5 eB5 s05 ⊢
          refine iteT ⟨.ref I, rfl, I, _, rfl, .inl (SqL.of eI5), (idleN ys3 lk).length, "item", by rw [List.length_map]; rfl, by omega, by omega, numT (idleN ys3 lk).length "item", " had no tests:", rfl, rfl, sz (by rw [w4]; omega), (show 1 ≤ sizeLine by decide), fun X nX => ?_⟩
          have sX := same_new (o := .lst [V.str (numT (idleN ys3 lk).length "item" ++ " had no tests:")]) nX
          have eX : (upd H5 X (.lst [V.str (numT (idleN ys3 lk).length "item" ++ " had no tests:")])) X = some (.lst [V.str (numT (idleN ys3 lk).length "item" ++ " had no tests:")]) := upd_same
          generalize upd H5 X (.lst [V.str (numT (idleN ys3 lk).length "item" ++ " had no tests:")]) = H6 at sX eX ⊢
          have eI6 := sX _ _ eI5
          refine ⟨.ref I, rfl, I, rfl, ⟨_, SqL.of eI6⟩, fun D nD => ?_⟩
          refine lc_rel (K := K) (a := I) (xs := (idleN ys3 lk).map V.str) (fun i H y => ∀ x, (idleN ys3 lk)[i]? = some x → y = .str (idleRow x)) (fun s h => h) (SqL.of eI6) nD (by rw [List.length_map]; exact small_line (by omega)) (fun _ => rfl) (fun i v H7 Qy hx s7 kk => ?_) fun H7 ys s7 eL hlen hR => ?_
          · obtain ⟨x, rfl, gx⟩ := str_at hx
            have lx := (nmI x (List.mem_of_getElem? gx)).2
            refine ⟨.str x, rfl, "    ", x, rfl, rfl, sz (by omega), kk _ _ (fun _ _ e => e) fun x' g' => ?_⟩
            rw [gx] at g'
            cases g'
            rfl
          · have ey : ys = ((idleN ys3 lk).map idleRow).map V.str := by
              rw [List.map_map]
              exact map_of (by rw [hlen, List.length_map]) fun j y hy x hx => hR j y hy x hx
            refine ⟨X, D, _, _, rfl, rfl, s7 _ _ eX, eL, by rw [hlen, List.length_map]; exact sz (show 1 + _ ≤ _ by omega), fun M nM => ?_⟩
            have s8 := sX.trans (s7.trans (same_new (o := .lst ([V.str (numT (idleN ys3 lk).length "item" ++ " had no tests:")] ++ ys)) nM))
            have nM5 : H5 M = none := (sX.trans s7).free nM
            refine ⟨I, G, B, M, _, _, _, _, _, rfl, s05.trans s8, s05.free nM5, s8 _ _ eI5, s8 _ _ eG5, s8 _ _ eB5, ?_, ne_of_none eI5 nM5, ne_of_none eG5 nM5, ne_of_none eB5 nM5⟩
            rw [upd_same, if_pos rfl, ey]
            unfold idleR
            rw [head_cons (by rw [List.isEmpty_map]; exact hne), List.length_map, List.map_cons, app_assoc _ " ", lit_idle]
            rfl
    · rintro σ H1 ⟨I, G, B, R, v6, v7, v8, v9, v10, rfl, s1, nR, eI, eG, eB, eR, iR, gR, bR⟩
      have lr1 : (if b = true then idleR ys3 lk else []).length ≤ 61 := by
        split
        · exact (rows_len okY).1
        · exact Nat.zero_le _
      generalize hr1 : (if b = true then idleR ys3 lk else []) = rows1 at eR lr1 ⊢
      have mulS : ∀ n : Nat, Txt.mul "s" (if (!decide (V.int (n : Nat) = V.int 1)) = true then 1 else 0) = (if n = 1 then ("" : Str) else "s") ∧ MulOk "s" (if (!decide (V.int (n : Nat) = V.int 1)) = true then 1 else 0) := fun n => by
        by_cases h : n = 1
        · rw [if_pos h, decide_eq_true (by rw [h]; rfl)]
          exact ⟨mul_s false, mulOk_s0⟩
        · rw [if_neg h, decide_eq_false (fun z => h (by have := V.int.inj z; omega))]
          exact ⟨mul_s true, mulOk_s1⟩
      have u1 : ("s" : Str).length = 1 := by decide +kernel
      have u0 : ("" : Str).length = 0 := by decide +kernel
      have ldS : ∀ n : Nat, (if n = 1 then ("" : Str) else "s").length ≤ 1 := fun n => by
        split
        · omega
        · omega
      refine ⟨SumJ H d b (idleN ys3 lk) (goodN ys3 lk) (badN ys3 lk) (rows1 ++ if b = true then goodR ys3 lk else []), ?_, ?_⟩
      · refine ⟨.bl b, rfl, _, rfl, ?_⟩
        cases b with
        | false =>
          refine iteF ⟨I, G, B, R, _, _, _, _, _, rfl, s1, nR, eI, eG, eB, ?_, iR, gR, bR⟩
          rw [if_neg Bool.false_ne_true, List.append_nil]
          exact eR
        | true =>
          refine iteT ⟨.ref G, rfl, by decide, fun E nE => ?_⟩
          have sE := same_new (o := .lst []) nE
          refine ⟨G, E, _, rfl, rfl, SqL.of (sE _ _ eG), SqL.of upd_same, _, rfl, ?_⟩
          have eI5 := sE _ _ eI
          have eG5 := sE _ _ eG
          have eB5 := sE _ _ eB
          have eR5 := sE _ _ eR
          have s5 := s1.trans sE
          have lq := @numT_len (goodN ys3 lk).length "item" (by omega)
          generalize upd H1 E (.lst []) = H5 at eI5 eG5 eB5 eR5 s5 ⊢
          cases hne : (goodN ys3 lk).isEmpty with
          | true =>
            rw [show ((goodN ys3 lk).map V.str).isEmpty = _ from List.isEmpty_map.trans hne]
            refine iteF ⟨I, G, B, R, _, _, _, _, _, rfl, s5, nR, eI5, eG5, eB5, ?_, iR, gR, bR⟩
            rw [if_pos rfl]
            unfold goodR
            rw [head_nil (by rw [List.isEmpty_map]; exact hne), List.append_nil]
            exact eR5
          | false =>
            rw [show ((goodN ys3 lk).map V.str).isEmpty = _ from List.isEmpty_map.trans hne]
            refine iteT ⟨.ref R, rfl, .inl ⟨rfl, _, SqL.of eR5⟩, .ref G, rfl, G, _, rfl, .inl (SqL.of eG5), (goodN ys3 lk).length, "item", by rw [List.length_map]; rfl, by omega, by omega, numT (goodN ys3 lk).length "item", " passed all tests:", rfl, rfl, sz (by rw [w5]; omega), R, _, _, rfl, rfl, eR5, by rw [List.length_map]; exact small_line (by omega), ?_⟩
            refine ⟨.ref G, rfl, G, rfl, ⟨_, SqL.of (by rw [upd_ne gR]; exact eG5)⟩, ?_⟩
            refine for_list (K := K) (a := G) (xs := (goodN ys3 lk).map V.str) (fun i σ H6 => (∃ v6 v7 v8 v9 v10 : Option V, σ = [some (.ref d), some (.bl true), some (.ref I), some (.ref G), some (.ref B), some (.ref R), v6, v7, v8, v9, v10]) ∧ Same H H6 ∧ H6 I = some (.lst ((idleN ys3 lk).map V.str)) ∧ H6 G = some (.lst ((goodN ys3 lk).map V.str)) ∧ H6 B = some (.lst ((badN ys3 lk).map V.str)) ∧ H6 R = some (.lst ((rows1 ++ (numT (goodN ys3 lk).length "item" ++ " passed all tests:") :: ((goodN ys3 lk).take i).map fun x => goodRow x (lk x).2.1).map V.str)))
              ⟨⟨_, _, _, _, _, rfl⟩, put_ok s5 nR, by rw [upd_ne iR]; exact eI5, by rw [upd_ne gR]; exact eG5, by rw [upd_ne bR]; exact eB5, by rw [upd_same, List.map_append]; rfl⟩ (fun i σ H6 _ h => SqL.of h.2.2.2.1) ?_ ?_
            · rintro i v σ H6 hx ⟨⟨v6, v7, v8, v9, v10, rfl⟩, s6, fI, fG, fB, fR⟩
              obtain ⟨x, rfl, gx⟩ := str_at hx
              obtain ⟨mx, lx, bx⟩ := nmG x (List.mem_of_getElem? gx)
              obtain ⟨t, dg, ht⟩ := sum_get (hd.same s6) mx
              obtain ⟨m1, m2⟩ := mulS (lk x).2.1
              have l3 : (rj (lk x).2.1).length ≤ _ := (spec3_at bx).2
              have ld := ldS (lk x).2.1
              have li : i < (goodN ys3 lk).length := (List.getElem?_eq_some_iff.mp gx).1
              refine ⟨.ref d, rfl, .str x, rfl, d, .ref t, rfl, dg, t, _, 1, .int ((lk x).2.1 : Nat), rfl, rfl, SqT.of ht, rfl, ?_⟩
              refine ⟨.ref R, rfl, .inl ⟨rfl, _, SqL.of fR⟩, .int ((lk x).2.1 : Nat), rfl, ((lk x).2.1 : Nat), rfl, log_ok (by omega), ⟨_, rfl⟩, natS (lk x).2.1, 3, rfl, rfl, by decide, " ", rj (lk x).2.1, rfl, rfl, sz (by omega), " " ++ rj (lk x).2.1, " test", rfl, rfl, sz (by rw [len_app]; omega), .int ((lk x).2.1 : Nat), rfl, rfl, .inr ⟨_, rfl, "s", _, rfl, rfl, m2, ?_⟩⟩
              rw [m1]
              refine ⟨" " ++ rj (lk x).2.1 ++ " test", _, rfl, rfl, sz (by rw [len_app, len_app]; omega), " " ++ rj (lk x).2.1 ++ " test" ++ (if (lk x).2.1 = 1 then ("" : Str) else "s"), " in ", rfl, rfl, sz (by rw [len_app, len_app, len_app]; omega), .str x, rfl, " " ++ rj (lk x).2.1 ++ " test" ++ (if (lk x).2.1 = 1 then ("" : Str) else "s") ++ " in ", x, rfl, rfl, sz (by rw [len_app, len_app, len_app, len_app]; omega), R, _, _, rfl, rfl, fR, by rw [List.length_map, List.length_append, List.length_cons, List.length_map, List.length_take]; exact small_line (by omega), ?_⟩
              rw [good_row]
              refine ⟨⟨_, _, _, _, _, rfl⟩, put_ok s6 nR, by rw [upd_ne iR]; exact fI, by rw [upd_ne gR]; exact fG, by rw [upd_ne bR]; exact fB, ?_⟩
              rw [upd_same, List.take_add_one, gx, List.map_append, List.map_append, List.map_append]
              simp only [List.map_append, List.map_cons, List.append_assoc, List.cons_append]
              rfl
            · rintro σ H6 ⟨⟨v6, v7, v8, v9, v10, rfl⟩, s6, fI, fG, fB, fR⟩
              refine ⟨I, G, B, R, _, _, _, _, _, rfl, s6, nR, fI, fG, fB, ?_, iR, gR, bR⟩
              rw [fR, List.length_map, List.take_length, if_pos rfl]
              unfold goodR
              rw [head_cons (by rw [List.isEmpty_map]; exact hne), List.length_map, app_assoc _ " ", lit_good]
      · clear eI eG eB eR s1 nR iR gR bR
        rintro σ H1 ⟨I, G, B, R, v6, v7, v8, v9, v10, rfl, s1, nR, eI, eG, eB, eR, iR, gR, bR⟩
        have lr2 : (rows1 ++ if b = true then goodR ys3 lk else []).length ≤ 122 := by
          rw [List.length_append]
          split
          · have := (rows_len okY).2.1
            omega
          · exact Nat.le_trans lr1 (by decide)
        generalize hr2 : (rows1 ++ if b = true then goodR ys3 lk else []) = rows2 at eR lr2 ⊢
        have lastLen : ∀ rows : List Str, rows.length ≤ 62 → (rows2 ++ rows).length ≤ 184 := fun rows h => by
          rw [List.length_append]
          omega
        refine ⟨SumJ H d b (idleN ys3 lk) (goodN ys3 lk) (badN ys3 lk) (rows2 ++ badR ys3 lk), ?_, ?_⟩
        · refine ⟨.ref B, rfl, by decide, fun E nE => ?_⟩
          have sE := same_new (o := .lst []) nE
          refine ⟨B, E, _, rfl, rfl, SqL.of (sE _ _ eB), SqL.of upd_same, _, rfl, ?_⟩
          have eI5 := sE _ _ eI
          have eG5 := sE _ _ eG
          have eB5 := sE _ _ eB
          have eR5 := sE _ _ eR
          have s5 := s1.trans sE
          have lq := @numT_len (badN ys3 lk).length "item" (by omega)
          generalize upd H1 E (.lst []) = H5 at eI5 eG5 eB5 eR5 s5 ⊢
          cases hne : (badN ys3 lk).isEmpty with
          | true =>
            rw [show ((badN ys3 lk).map V.str).isEmpty = _ from List.isEmpty_map.trans hne]
            refine iteF ⟨I, G, B, R, _, _, _, _, _, rfl, s5, nR, eI5, eG5, eB5, ?_, iR, gR, bR⟩
            unfold badR
            rw [head_nil (by rw [List.isEmpty_map]; exact hne)]
            show H5 R = some (.lst ((rows2 ++ []).map V.str))
            rw [List.append_nil]
            exact eR5
          | false =>
            rw [show ((badN ys3 lk).map V.str).isEmpty = _ from List.isEmpty_map.trans hne]
            refine iteT ⟨.ref R, rfl, .inl ⟨rfl, _, SqL.of eR5⟩, "*", 70, rfl, rfl, mulOk_star, .ref B, rfl, B, _, rfl, .inl (SqL.of eB5), (badN ys3 lk).length, "item", by rw [List.length_map]; rfl, by omega, by omega, numT (badN ys3 lk).length "item", " had failures:", rfl, rfl, sz (by rw [w6]; omega), (show 2 ≤ sizeLine by decide), fun X nX => ?_⟩
            rw [lit_star]
            have sX := same_new (o := .lst [V.str starS, V.str (numT (badN ys3 lk).length "item" ++ " had failures:")]) nX
            have eX : (upd H5 X (.lst [V.str starS, V.str (numT (badN ys3 lk).length "item" ++ " had failures:")])) X = some (.lst [V.str starS, V.str (numT (badN ys3 lk).length "item" ++ " had failures:")]) := upd_same
            have eI6 := sX _ _ eI5
            have eG6 := sX _ _ eG5
            have eB6 := sX _ _ eB5
            have eR6 := sX _ _ eR5
            have s6 := s5.trans sX
            generalize upd H5 X (.lst [V.str starS, V.str (numT (badN ys3 lk).length "item" ++ " had failures:")]) = H6 at eX eI6 eG6 eB6 eR6 s6 ⊢
            refine ⟨R, X, _, _, rfl, rfl, eR6, eX, by rw [List.length_map]; exact sz (show _ + 2 ≤ _ by omega), ?_⟩
            refine ⟨.ref B, rfl, B, rfl, ⟨_, SqL.of (by rw [upd_ne bR]; exact eB6)⟩, ?_⟩
            refine for_list (K := K) (a := B) (xs := (badN ys3 lk).map V.str) (fun i σ H6 => (∃ v6 v7 v8 v9 v10 : Option V, σ = [some (.ref d), some (.bl b), some (.ref I), some (.ref G), some (.ref B), some (.ref R), v6, v7, v8, v9, v10]) ∧ Same H H6 ∧ H6 I = some (.lst ((idleN ys3 lk).map V.str)) ∧ H6 G = some (.lst ((goodN ys3 lk).map V.str)) ∧ H6 B = some (.lst ((badN ys3 lk).map V.str)) ∧ H6 R = some (.lst ((rows2 ++ starS :: (numT (badN ys3 lk).length "item" ++ " had failures:") :: ((badN ys3 lk).take i).map fun x => badRow x (lk x)).map V.str)))
              ⟨⟨_, _, _, _, _, rfl⟩, put_ok s6 nR, by rw [upd_ne iR]; exact eI6, by rw [upd_ne gR]; exact eG6, by rw [upd_ne bR]; exact eB6, by rw [upd_same, List.map_append]; rfl⟩ (fun i σ H6 _ h => SqL.of h.2.2.2.2.1) ?_ ?_
            · rintro i v σ H6 hx ⟨⟨v6, v7, v8, v9, v10, rfl⟩, s6, fI, fG, fB, fR⟩
              obtain ⟨x, rfl, gx⟩ := str_at hx
              obtain ⟨mx, lx, b1, b2⟩ := nmB x (List.mem_of_getElem? gx)
              have l3 : (rj (lk x).1).length ≤ _ := (spec3_at b1).2
              have l4 : (rj (lk x).2.1).length ≤ _ := (spec3_at b2).2
              have li : i < (badN ys3 lk).length := (List.getElem?_eq_some_iff.mp gx).1
              refine ⟨2, rfl, by decide, by decide, fun D nD => ?_⟩
              refine lc_relR (n := 2) (fun j _ y => y = .str (rj (getC (lk x) j))) (fun _ h => h) nD (by decide +kernel) (fun _ => rfl) (fun j H7 Qy hj s7 kk => ?_) fun H7 ys s7 eD hly7 hR => ?_
              · obtain ⟨t, dg, ht⟩ := sum_get (hd.same (s6.trans s7)) mx
                have bj : getC (lk x) j < 2000 := by
                  match j, hj with
                  | 0, _ => exact b1
                  | 1, _ => exact b2
                refine ⟨.ref d, rfl, .str x, rfl, d, .ref t, rfl, dg, .int (0 + (j : Nat)), rfl, t, _, (0 + (j : Nat) : Int), .int (getC (lk x) j : Nat), rfl, rfl, SqT.of ht, ?_, (getC (lk x) j : Nat), rfl, log_ok (by omega), ⟨_, rfl⟩, natS (getC (lk x) j), 3, rfl, rfl, by decide, kk _ _ (fun _ _ e => e) rfl⟩
                rw [Int.zero_add]
                exact atI_nat (tri_at (lk x) j (by omega))
              · have ey : ys = [rj (lk x).1, rj (lk x).2.1].map V.str := by
                  match ys, hly7, hR with
                  | [a, c], _, hR => rw [hR 0 a rfl, hR 1 c rfl]; rfl
                have nDH : H D = none := s6.free nD
                have DR : D ≠ R := fun z => by
                  rw [z, fR] at nD
                  cases nD
                have gR2 := s7 _ _ fR
                refine ⟨.ref R, rfl, .inl ⟨rfl, _, SqL.of gR2⟩, ⟨_, rfl⟩, .ref D, rfl, " of ", D, [rj (lk x).1, rj (lk x).2.1], rfl, rfl, .inl (SqL.of (ey ▸ eD)), ?_, " ", Txt.join " of " [rj (lk x).1, rj (lk x).2.1], rfl, rfl, ?_, " " ++ Txt.join " of " [rj (lk x).1, rj (lk x).2.1], " in ", rfl, rfl, ?_, .str x, rfl, " " ++ Txt.join " of " [rj (lk x).1, rj (lk x).2.1] ++ " in ", x, rfl, rfl, ?_, R, _, _, rfl, rfl, gR2, by rw [List.length_map, List.length_append, List.length_cons, List.length_cons, List.length_map, List.length_take]; exact small_line (by omega), ?_⟩
                · rw [List.map_cons, List.map_cons, List.map_nil, List.sum_cons, List.sum_cons, List.sum_nil, List.length_cons, List.length_cons, List.length_nil]
                  omega
                · rw [join_two, len_app, len_app]
                  exact sz (by omega)
                · rw [join_two, len_app, len_app, len_app]
                  exact sz (by omega)
                · rw [join_two, len_app, len_app, len_app, len_app]
                  exact sz (by omega)
                rw [bad_row]
                refine ⟨⟨_, _, _, _, _, rfl⟩, put_ok (s6.trans s7) nR, by rw [upd_ne iR]; exact s7 _ _ fI, by rw [upd_ne gR]; exact s7 _ _ fG, by rw [upd_ne bR]; exact s7 _ _ fB, ?_⟩
                rw [upd_same, List.take_add_one, gx]
                simp only [List.map_append, List.map_cons, List.append_assoc, List.cons_append]
                rfl
            · rintro σ H6 ⟨⟨v6, v7, v8, v9, v10, rfl⟩, s6, fI, fG, fB, fR⟩
              refine ⟨I, G, B, R, _, _, _, _, _, rfl, s6, nR, fI, fG, fB, ?_, iR, gR, bR⟩
              rw [fR, List.length_map, List.take_length]
              unfold badR
              rw [head_cons (by rw [List.isEmpty_map]; exact hne), List.length_map, app_assoc _ " ", lit_bad]
              rfl
        · clear eI eG eB eR s1 nR iR gR bR
          rintro σ H1 ⟨I, G, B, R, v6, v7, v8, v9, v10, rfl, s1, nR, eI, eG, eB, eR, iR, gR, bR⟩
          have hl2 := sumR_len okY b
          have hs := rows_small okY b
          have lsm : ys3.length = ms.length := pm.length_eq
          have le : rows2 ++ badR ys3 lk ++ rowsTot b ms.length (sumT3 (ys3.map lk)) = sumR ys3 lk b := by
            rw [← hr2, ← hr1]
            unfold rowsTot sumR
            rw [lsm]
            cases b
            · rfl
            · simp only [if_pos, List.append_assoc]
          have ll := congrArg List.length le
          rw [List.length_append] at ll
          refine ⟨⟨_, rfl⟩, .ref R, rfl, .ref d, rfl, .bl b, rfl, d, ms, lk, b, _, rfl, hd.same s1, hl, (sum_perm pm lk).symm, okY.all.1, okY.all.2.1, okY.all.2.2.1, okY.all.2.2.2, fun H2 N s2 nN eN => ?_⟩
          refine ⟨R, N, _, _, rfl, rfl, s2 _ _ eR, eN, by rw [List.length_map, List.length_map, ll]; exact sz (by omega), fun X nX => ?_⟩
          have sX := same_new (o := .lst ((sumR ys3 lk b).map V.str)) nX
          have eX : (upd H2 X (.lst ((sumR ys3 lk b).map V.str))) X = some (.lst ((sumR ys3 lk b).map V.str)) := upd_same
          rw [← List.map_append, le]
          generalize upd H2 X (.lst ((sumR ys3 lk b).map V.str)) = H3 at sX eX ⊢
          refine ⟨X, rfl, ⟨_, SqL.of eX⟩, fun D nD => ?_⟩
          refine lc_rel (K := K) (a := X) (xs := (sumR ys3 lk b).map V.str) (fun i H y => ∀ x, (sumR ys3 lk b)[i]? = some x → y = .str (x ++ "\n")) (fun s h => h) (SqL.of eX) nD (by rw [List.length_map]; exact small_line (by omega)) (fun _ => rfl) (fun i v H5 Qy hx s5 kk => ?_) fun H5 ys s5 eL hly5 hR => ?_
          · obtain ⟨x, rfl, gx⟩ := str_at hx
            have lx := hs x (List.mem_of_getElem? gx)
            have e1 : ("\n" : Str).length = 1 := by decide +kernel
            refine ⟨.str x, rfl, x, "\n", rfl, rfl, sz (by omega), kk _ _ (fun _ _ e => e) fun x' g' => ?_⟩
            rw [gx] at g'
            cases g'
            rfl
          · have ey : ys = ((sumR ys3 lk b).map fun r : Str => r ++ ("\n" : Str)).map V.str := by
              rw [List.map_map]
              exact map_of (by rw [hly5, List.length_map]) fun j y hy x hx => hR j y hy x hx
            refine ⟨"", D, (sumR ys3 lk b).map (fun r : Str => r ++ ("\n" : Str)), rfl, rfl, .inl (SqL.of (ey ▸ eL)), ?_, k _ ys3 pm so (s1.trans (s2.trans (sX.trans s5)))⟩
            have e0 : ("" : Str).length = 0 := by decide +kernel
            have e1 : ("\n" : Str).length = 1 := by decide +kernel
            rw [e0, Nat.mul_zero]
            have sb := @sum_bound ((sumR ys3 lk b).map fun r : Str => r ++ ("\n" : Str)) 9001 fun r hr => by
              obtain ⟨x, hx, rfl⟩ := List.mem_map.mp hr
              have := hs x hx
              rw [len_app]
              omega
            rw [List.length_map] at sb
            have : 9001 * (sumR ys3 lk b).length ≤ 9001 * 190 := Nat.mul_le_mul_left _ hl2
            omega
end

/-! ### a, b = a list of that length -/
def gUnlL (K : PySem.W.Frag) (n : Nat) (t : TGs) : TG := fun v σ H Q => ∃ a xs, v = .ref a ∧ SqL K H a xs ∧ xs.length = n ∧ t xs σ H Q
theorem pg_seqU {X : Cx} {es : List Expr} {k : Nat} {pos : Pos} {t : TGs} {n : Nat} (hc : X.calm = true) (h : PGs X es t)
    (hn : (assignEach es X.env).length = n := by rfl) (hst : (assignEach es X.env).findIdx? (·.1) = none := by rfl) : PG X (.Tuple es k pos) (gUnlL X.K n t) := by
  refine ⟨fun pins s σ H v u Q I r hw => ?_⟩
  obtain ⟨a, xs, e1, hq, hl, hw⟩ := hw
  subst e1
  cases r
  obtain ⟨its, rv, ht, hz⟩ := I.list hq
  have sz : its.toArray.size = n := by simp [← hl, rv.length]
  rw [assign_Tuple]
  refine wpAny_bind (wpAny_standAt ?_)
  unfold unpack
  rw [hn, hst, ← sz]
  refine wpAny_bind (wpAny_holding (PySem.W.kun_itemsOf (I.ok.hd hc) ht.isList fun h' hx => ?_))
  have I1 : Inv X pins σ H { s with heap := h' } := I.kept (t' := s.toks) fun b o e => hx b o (Nat.ne_of_lt (Heap.lt_size e)) e
  exact h.run pins _ σ H xs _ Q I1 (by simpa using rv) hw

/-! ### a module's names are texts -/
def keyS : Value → Bool
  | .str _ _ => true
  | _ => false
theorem nsOk_of {K : PySem.W.Frag} {N : Addr} {c : Value} {d : Option Addr} {l : List DictEntry} {n : Nat} {sl : Array (Option Value)} (h : K.lookup N = some { cls := c, dict := d, data := .dict l.toArray n, slots := sl }) (e : (l.all fun x => keyS x.key) = true) : PySem.W.nsOkIn K N = true := by
  unfold PySem.W.nsOkIn
  rw [h]
  have e2 := List.all_eq_true.mp e
  show (l.toArray.all _) = true
  rw [List.all_toArray, List.all_eq_true]
  intro x hx
  have e3 := e2 x hx
  cases hk : x.key <;> rw [hk] at e3 <;> first | rfl | exact absurd e3 Bool.false_ne_true

/-! ### what the law counts -/
theorem laid {H H1 : Hp} {p : Addr} {o : HO} (h : L2.upd H p o = H1) (n : H p = none) : Same H H1 ∧ H1 p = some o := by
  subst h
  exact ⟨same_new n, upd_same⟩
theorem fresh_ne {H : Hp} {D A B p : Addr} {n : Int} (d : Drw H D A B n) (h : H p = none) : p ≠ D ∧ p ≠ A := by
  obtain ⟨⟨_, e1⟩, ⟨_, e2⟩, _⟩ := d.tracked
  exact ⟨(ne_of_none e1 h).symm, (ne_of_none e2 h).symm⟩
structure ItemsOk (i : Nat) (items : List (Str × T3)) : Prop where
  nd : (items.map (·.1)).Nodup
  nm : ∀ x ∈ items.map (·.1), x = ("a" : Str) ∨ x = ("b" : Str)
  len : items.length ≤ i
  bd : ∀ q ∈ items, q.2.1 ≤ q.2.2.1 ∧ q.2.2.1 ≤ 390 * i ∧ q.2.2.2 ≤ 390 * i
theorem look_bd {i : Nat} {items : List (Str × T3)} (h : ItemsOk i items) (x : Str) : ((lookI items x).getD (0, 0, 0)).1 ≤ ((lookI items x).getD (0, 0, 0)).2.1 ∧ ((lookI items x).getD (0, 0, 0)).2.1 ≤ 390 * i ∧ ((lookI items x).getD (0, 0, 0)).2.2 ≤ 390 * i := by
  unfold lookI
  cases e : items.find? fun p => decide (p.1 = x) with
  | none => exact ⟨Nat.le_refl _, Nat.zero_le _, Nat.zero_le _⟩
  | some q => exact h.bd q (List.mem_of_find?_eq_some e)
theorem sum_two (a c : T3) : sumT3 [a, c] = (a.1 + c.1, a.2.1 + c.2.1, a.2.2 + c.2.2) := by
  unfold sumT3
  simp
theorem ItemsOk.plus {i : Nat} {items : List (Str × T3)} (h : ItemsOk i items) {x : Str} {c : T3} (hx : x = "a" ∨ x = "b") (c1 : c.1 ≤ c.2.1) (c2 : c.2.1 ≤ 390) (c3 : c.2.2 ≤ 390) : ItemsOk (i + 1) (plusI items x c) := by
  obtain ⟨b1, b2, b3⟩ := look_bd h x
  unfold plusI
  rw [sum_two]
  generalize (lookI items x).getD (0, 0, 0) = old at b1 b2 b3
  unfold putI
  cases e : (items.any fun p => decide (p.1 = x)) with
  | true =>
    rw [if_pos rfl]
    have en : (items.map fun p => if p.1 = x then (p.1, (old.1 + c.1, old.2.1 + c.2.1, old.2.2 + c.2.2)) else p).map (·.1) = items.map (·.1) := by
      rw [List.map_map]
      refine List.map_congr_left fun q _ => ?_
      show (if q.1 = x then (q.1, (old.1 + c.1, old.2.1 + c.2.1, old.2.2 + c.2.2)) else q).1 = q.1
      split <;> rfl
    refine ⟨by rw [en]; exact h.nd, by rw [en]; exact h.nm, by rw [List.length_map]; have := h.len; omega, fun q hq => ?_⟩
    obtain ⟨q0, h0, rfl⟩ := List.mem_map.mp hq
    have := h.bd q0 h0
    split
    · dsimp only
      omega
    · omega
  | false =>
    rw [if_neg Bool.false_ne_true]
    have hn : x ∉ items.map (·.1) := fun hm => by
      obtain ⟨q, hq, rfl⟩ := List.mem_map.mp hm
      have := List.any_eq_false.mp e q hq
      exact this (decide_eq_true rfl)
    refine ⟨?_, fun y hy => ?_, by rw [List.length_append]; have := h.len; exact Nat.succ_le_succ this, fun q hq => ?_⟩
    · rw [List.map_append]
      refine List.nodup_append.mpr ⟨h.nd, (show ([x] : List Str).Nodup from List.pairwise_singleton _ _), fun a ha b hb z => ?_⟩
      rw [List.map_cons, List.map_nil, List.mem_singleton] at hb
      rw [z, hb] at ha
      exact hn ha
    · rw [List.map_append] at hy
      rcases List.mem_append.mp hy with hy | hy
      · exact h.nm y hy
      · rw [List.map_cons, List.map_nil, List.mem_singleton] at hy
        rw [hy]
        exact hx
    · rcases List.mem_append.mp hq with hq | hq
      · have := h.bd q hq
        omega
      · rw [List.mem_singleton.mp hq]
        dsimp only
        omega
theorem look_mem : ∀ {items : List (Str × T3)} {q : Str × T3}, (items.map (·.1)).Nodup → q ∈ items → lookT items q.1 = q.2
  | p :: r, q, nd, h => by
    unfold lookT lookI
    rw [List.find?_cons]
    rcases List.mem_cons.mp h with rfl | h
    · rw [decide_eq_true rfl]
      rfl
    · have hn := List.nodup_cons.mp (show (p.1 :: r.map (·.1)).Nodup from nd)
      rw [decide_eq_false (fun z => hn.1 (by rw [z]; exact List.mem_map.mpr ⟨q, h, rfl⟩))]
      exact look_mem hn.2 h
theorem names_look {items : List (Str × T3)} (nd : (items.map (·.1)).Nodup) : (items.map (·.1)).map (lookT items) = items.map (·.2) := by
  rw [List.map_map]
  exact List.map_congr_left fun q hq => look_mem nd hq
theorem items_back {items : List (Str × T3)} (nd : (items.map (·.1)).Nodup) : itemsOf (items.map (·.1)) (lookT items) = items := by
  unfold itemsOf
  rw [List.map_map]
  refine (List.map_congr_left fun q hq => ?_).trans (List.map_id items)
  show (q.1, lookT items q.1) = q
  rw [look_mem nd hq]
theorem sums_le {α : Type} {f g : α → Nat} : ∀ {l : List α}, (∀ q ∈ l, f q ≤ g q) → (l.map f).sum ≤ (l.map g).sum
  | [], _ => Nat.le_refl _
  | q :: r, h => by
    rw [List.map_cons, List.map_cons, List.sum_cons, List.sum_cons]
    have h1 := h q (List.mem_cons_self ..)
    have h2 := @sums_le _ f g r fun x hx => h x (List.mem_cons_of_mem _ hx)
    omega
theorem sums_bd {α : Type} {f : α → Nat} {n : Nat} : ∀ {l : List α}, (∀ q ∈ l, f q ≤ n) → (l.map f).sum ≤ n * l.length
  | [], _ => Nat.zero_le _
  | q :: r, h => by
    rw [List.map_cons, List.sum_cons, List.length_cons, Nat.mul_succ]
    have h1 := h q (List.mem_cons_self ..)
    have h2 := @sums_bd _ f n r fun x hx => h x (List.mem_cons_of_mem _ hx)
    omega
theorem ItemsOk.sum {i : Nat} {items : List (Str × T3)} (h : ItemsOk i items) (hi : i ≤ 5) : (sumT3 (items.map (·.2))).1 < 1000000 ∧ (sumT3 (items.map (·.2))).2.1 < 1000000 ∧ (sumT3 (items.map (·.2))).2.2 < 1000000 ∧ (sumT3 (items.map (·.2))).1 ≤ (sumT3 (items.map (·.2))).2.1 := by
  have hl := h.len
  unfold sumT3
  rw [List.map_map, List.map_map, List.map_map]
  have h1 : (items.map ((fun c : T3 => c.1) ∘ (·.2))).sum ≤ (items.map ((fun c : T3 => c.2.1) ∘ (·.2))).sum := sums_le fun q hq => (h.bd q hq).1
  have h2 : (items.map ((fun c : T3 => c.2.1) ∘ (·.2))).sum ≤ 1950 * items.length := sums_bd fun q hq => Nat.le_trans (h.bd q hq).2.1 (by omega)
  have h3 : (items.map ((fun c : T3 => c.2.2) ∘ (·.2))).sum ≤ 1950 * items.length := sums_bd fun q hq => Nat.le_trans (h.bd q hq).2.2 (by omega)
  dsimp only
  omega
theorem ItemsOk.nmOk {i : Nat} {items : List (Str × T3)} (h : ItemsOk i items) (hi : i ≤ 5) {ns : List Str} (pm : ns.Perm (items.map (·.1))) : NmOk ns (lookT items) := by
  have hl := h.len
  refine ⟨pm.nodup_iff.mpr h.nd, ?_, fun x hx => ?_, fun x hx => ?_, ?_⟩
  · rw [pm.length_eq, List.length_map]
    omega
  · have e1 : ("a" : Str).length = 1 := by decide +kernel
    have e2 : ("b" : Str).length = 1 := by decide +kernel
    rcases h.nm x (pm.mem_iff.mp hx) with rfl | rfl <;> omega
  · obtain ⟨q, hq, rfl⟩ := List.mem_map.mp (pm.mem_iff.mp hx)
    rw [look_mem h.nd hq]
    have := h.bd q hq
    omega
  · rw [sum_perm pm, names_look h.nd]
    exact h.sum hi
theorem rnW_all {W : List (Str × List Str)} {xs : List Str} : ∀ {es : List ExD} {fd : Bool}, (∀ e ∈ es, has "FAIL_FAST" (forceF xs e.kv) = false) → rnW W xs fd es = es.map (wordE W xs)
  | [], _, _ => rfl
  | e :: r, fd, h => by
    have h0 := h e (List.mem_cons_self ..)
    have h1 : ∀ fd, rnW W xs fd r = r.map (wordE W xs) := fun fd => rnW_all fun x hx => h x (List.mem_cons_of_mem _ hx)
    unfold rnW
    rw [h0, Bool.and_false, if_neg Bool.false_ne_true, h1, h1, List.map_cons]
    split <;> rfl
theorem cnt_words (a b c : Nat) : cntW (List.replicate a ("success" : Str) ++ List.replicate b ("failure" : Str) ++ List.replicate c ("skipped" : Str)) = (b, a + b + c, c) := by
  have f1 : failF "success" = false := by decide +kernel
  have f2 : failF "failure" = true := by decide +kernel
  have f3 : failF "skipped" = false := by decide +kernel
  have g1 : (("success" : Str) == ("skipped" : Str)) = false := by decide +kernel
  have g2 : (("failure" : Str) == ("skipped" : Str)) = false := by decide +kernel
  have g3 : (("skipped" : Str) == ("skipped" : Str)) = true := by decide +kernel
  unfold cntW
  simp [List.filter_append, List.filter_replicate, List.countP_append, List.countP_replicate, f1, f2, f3, g1, g2, g3, Nat.add_assoc]
def exD (want : Str) (kv : List (Key × V)) : ExD := { src := fedS "g\n", wt := wantS want, er := .non, n := 1, i := 0, br := bareT [[103]] [], kv := kv }
def skipK : List (Key × V) := [(Sum.inr "SKIP", .bl true)]
def W0 : List (Str × List Str) := [("g\n", ["a"])]
theorem br_g : bareT [[103]] [] = "g\n" := by decide +kernel
theorem w_good : wordE W0 [] (exD "a\n" []) = "success" := by decide +kernel
theorem w_bad : wordE W0 [] (exD "b\n" []) = "failure" := by decide +kernel
theorem w_skip : wordE W0 [] (exD "" skipK) = "skipped" := by decide +kernel
theorem run_ok {want : Str} {kv : List (Key × V)} (h : want = "a\n" ∨ want = "b\n" ∨ want = "") (hk : kv = [] ∨ kv = skipK) : RunOk W0 [] (exD want kv) 0 := by
  refine ⟨?_, ?_, ?_, ?_, ?_, ?_, ?_⟩
  · show some (("g\n" : Str), (["a"] : List Str)) = some (bareT [[103]] [], lookS W0 (bareT [[103]] []))
    rw [br_g]
    decide +kernel
  · show ((lookS W0 (bareT [[103]] [])).map (·.length)).sum ≤ 100
    rw [br_g]
    decide +kernel
  · show (wantS want).length ≤ 150
    rcases h with rfl | rfl | rfl <;> decide +kernel
  · show (fedS "g\n").length ≤ 1000
    decide +kernel
  · show (1 : Int).natAbs < 1000000
    decide
  · show BoolVals kv
    rcases hk with rfl | rfl
    · exact nofun
    · intro q hq
      rw [List.mem_singleton.mp hq]
      exact ⟨true, rfl⟩
  · show has "NORMALIZE_WHITESPACE" (forceF [] kv) = false
    rcases hk with rfl | rfl <;> decide +kernel
theorem no_fast {kv : List (Key × V)} (hk : kv = [] ∨ kv = skipK) : has "FAIL_FAST" (forceF [] kv) = false := by
  rcases hk with rfl | rfl <;> decide +kernel
theorem sq_tri {H : Hp} {p q : Addr} {c : T3} (n : Nat) (hp : H p = some (tri c)) (hq : H q = some (tri c)) : Sq H (n + 2) (.ref p) (.ref q) :=
  .inr ⟨p, q, _, _, rfl, rfl, .inr ⟨hp, hq⟩, .cons (.inl ⟨.inr (.inr (.inl ⟨_, rfl⟩)), rfl⟩) (.cons (.inl ⟨.inr (.inr (.inl ⟨_, rfl⟩)), rfl⟩) (.cons (.inl ⟨.inr (.inr (.inl ⟨_, rfl⟩)), rfl⟩) .nil)), (show 3 ≤ 1000 by decide)⟩

/-! ### a heap without some places -/
def hid (S : List Addr) (H : Hp) : Hp := fun b => if b ∈ S then none else H b
theorem hid_at {S : List Addr} {H : Hp} {b : Addr} (h : b ∉ S) : hid S H b = H b := if_neg h
theorem hid_some {S : List Addr} {H : Hp} {b : Addr} {o : HO} (e : hid S H b = some o) : b ∉ S ∧ H b = some o := by
  unfold hid at e
  split at e
  · cases e
  · rename_i h
    exact ⟨h, e⟩
theorem hid_sub {S : List Addr} {H : Hp} : Same (hid S H) H := fun b o e => (hid_some e).2
theorem hid_but {S : List Addr} {H H' : Hp} (h : ∀ b o, H b = some o → b ∉ S → H' b = some o) : Same (hid S H) (hid S H') := fun b o e => by
  obtain ⟨h1, h2⟩ := hid_some e
  rw [hid_at h1]
  exact h b o h2 h1
theorem hid_same {S : List Addr} {H H' : Hp} (s : Same H H') : Same (hid S H) (hid S H') := hid_but fun b o e _ => s b o e
theorem hid_kept {D A : Addr} {S : List Addr} {H H' : Hp} (k : Kept D A H H') (hD : D ∈ S) (hA : A ∈ S) : Same (hid S H) (hid S H') := hid_but fun b o e n => k b o e (fun z => n (z ▸ hD)) (fun z => n (z ▸ hA))
theorem hid_put {S : List Addr} {H0 H1 : Hp} {R : Addr} {o : HO} (s : Same (hid S H0) (hid S H1)) (n : H0 R = none) : Same (hid S H0) (hid S (upd H1 R o)) := fun b u e => by
  obtain ⟨h1, h2⟩ := hid_some e
  rw [hid_at h1, upd_ne (ne_of_none h2 n)]
  exact hid_sub _ _ (s _ _ e)
/-- the places hold something -/
def Liv (S : List Addr) (H : Hp) : Prop := ∀ b ∈ S, (∃ xs, H b = some (.lst xs)) ∨ ∃ ks, H b = some (.dK ks)
theorem Liv.not {S : List Addr} {H : Hp} (h : Liv S H) {b : Addr} {o : HO} (e : H b = some o) (n1 : ∀ xs, o ≠ .lst xs) (n2 : ∀ ks, o ≠ .dK ks) : b ∉ S := fun hb => by
  rcases h b hb with ⟨_, z⟩ | ⟨_, z⟩
  · rw [e] at z
    cases z
    exact n1 _ rfl
  · rw [e] at z
    cases z
    exact n2 _ rfl
theorem Liv.new {S : List Addr} {H : Hp} (h : Liv S H) {b : Addr} (e : H b = none) : b ∉ S := fun hb => by
  rcases h b hb with ⟨_, z⟩ | ⟨_, z⟩ <;> rw [e] at z <;> cases z
theorem liv_of {H : Hp} {D A B it : Addr} {n : Int} {ks : List (Key × V)} (dr : Drw H D A B n) (h : H it = some (.dK ks)) : Liv [D, A, it] H := fun b hb => by
  obtain ⟨as, bs, c, e1, e2, e3⟩ := dr.ex
  rcases List.mem_cons.mp hb with rfl | hb
  · exact .inl ⟨_, e1⟩
  · rcases List.mem_cons.mp hb with rfl | hb
    · exact .inl ⟨_, e2⟩
    · rw [List.mem_singleton.mp hb]
      exact .inr ⟨_, h⟩
theorem laidS {S : List Addr} {H H1 : Hp} {p : Addr} {o : HO} (l : Liv S H) (h : L2.upd H p o = H1) (n : H p = none) : Same H H1 ∧ Same (hid S H) (hid S H1) ∧ hid S H1 p = some o := by
  obtain ⟨s, e⟩ := laid h n
  exact ⟨s, hid_same s, by rw [hid_at (l.new n)]; exact e⟩
theorem RnAt.hide {C : Addr} {S : List Addr} {H : Hp} (l : Liv S H) {r dx p f c : Addr} {ds kvs : List (Key × V)} {items : List (Str × T3)} (h : RnAt C H r dx p f c ds kvs W0 [] items) (hf : f ∉ S) (hp : p ∉ S) (hc : c ∉ S) : RnAt C (hid S H) r dx p f c ds kvs W0 [] items := by
  have up : ∀ {b : Addr} {o : HO}, H b = some o → (∀ xs, o ≠ .lst xs) → (∀ ks, o ≠ .dK ks) → hid S H b = some o := fun {b o} e n1 n2 => by
    rw [hid_at (l.not e n1 n2)]
    exact e
  refine ⟨up h.ins nofun nofun, by rw [hid_at hp]; exact h.play, ⟨h.acts.1, fun i q p a b => ?_⟩, by rw [hid_at hf]; exact h.flags, by rw [hid_at hc]; exact h.cnts, h.cnt.mono fun t c e => up e nofun nofun, h.ne⟩
  have hq := h.acts.2 i q p a b
  have hi : i = 0 := by
    have := (List.getElem?_eq_some_iff.mp b).1
    have e : (PlayD actT W0).length = 1 := rfl
    omega
  subst hi
  cases b
  obtain ⟨t1, vs, e1, h1, pr, l1⟩ := hq
  cases pr with
  | cons r1 t =>
    cases t
    obtain ⟨t2, us, rfl, h2, pr2, l2⟩ := r1
    have pr3 : Paired (HAt 1 (hid S H)) us [PyData.str "print", PyData.str "a"] := by
      cases pr2 with
      | cons a t =>
        cases t with
        | cons b t =>
          cases t
          exact .cons a (.cons b .nil)
    exact ⟨t1, _, e1, up h1 nofun nofun, .cons ⟨t2, us, rfl, up h2 nofun nofun, pr3, l2⟩ .nil, l1⟩
theorem paired_app {α β : Type} {F : α → β → Prop} : ∀ {xs xs' : List α} {ys ys' : List β}, Paired F xs ys → Paired F xs' ys' → Paired F (xs ++ xs') (ys ++ ys')
  | _, _, _, _, .nil, k => k
  | _, _, _, _, .cons r t, k => .cons r (paired_app t k)
theorem paired_rep {α β : Type} {F : α → β → Prop} {x : α} {y : β} (h : F x y) : ∀ n : Nat, Paired F (List.replicate n x) (List.replicate n y)
  | 0 => .nil
  | n + 1 => by
    rw [List.replicate_succ, List.replicate_succ]
    exact .cons h (paired_rep h n)
theorem flat_rep2 (v : V) : ∀ n : Nat, (List.replicate n [v]).flatten = List.replicate n v
  | 0 => rfl
  | n + 1 => by rw [List.replicate_succ, List.flatten_cons, flat_rep2 v n, List.replicate_succ]; rfl

theorem ExAt.hide {C : Addr} {S : List Addr} {H : Hp} (l : ∀ b ∈ S, ∃ xs, H b = some (.lst xs)) {v : V} {e : ExD} (h : ExAt C H v e) : ExAt C (hid S H) v e := by
  have up : ∀ {b : Addr} {o : HO}, H b = some o → (∀ xs, o ≠ .lst xs) → hid S H b = some o := fun {b o} e n1 => by
    rw [hid_at (fun hb => by
      obtain ⟨_, z⟩ := l b hb
      rw [e] at z
      cases z
      exact n1 _ rfl)]
    exact e
  obtain ⟨a, dx, fs, e1, e2, e3⟩ := h
  obtain ⟨o, a1, b1⟩ := e3.options
  exact ⟨a, dx, fs, e1, up e2 nofun, ⟨e3.source, e3.want, e3.error, e3.line, e3.indent, ⟨o, a1, up b1 nofun⟩, e3.bare⟩⟩
theorem drw_lst {H : Hp} {D A B : Addr} {n : Int} (dr : Drw H D A B n) : ∀ b ∈ [D, A], ∃ xs, H b = some (.lst xs) := fun b hb => by
  obtain ⟨as, bs, c, e1, e2, e3⟩ := dr.ex
  rcases List.mem_cons.mp hb with rfl | hb
  · exact ⟨_, e1⟩
  · rw [List.mem_singleton.mp hb]
    exact ⟨_, e2⟩
theorem drw_new {H : Hp} {D A B : Addr} {n : Int} (dr : Drw H D A B n) {b : Addr} (e : H b = none) : b ∉ [D, A] := fun hb => by
  obtain ⟨_, z⟩ := drw_lst dr b hb
  rw [e] at z
  cases z
/-- a new thing, and what is known of the draws -/
theorem laidD {H H1 : Hp} {D A B p : Addr} {n : Int} {o : HO} (dr : Drw H D A B n) (h : L2.upd H p o = H1) (hp : H p = none) : Drw H1 D A B n ∧ Same (hid [D, A] H) (hid [D, A] H1) ∧ hid [D, A] H1 p = some o ∧ p ≠ D ∧ p ≠ A := by
  obtain ⟨s, e⟩ := laid h hp
  have q := fresh_ne dr hp
  exact ⟨dr.same s, hid_same s, by rw [hid_at (drw_new dr hp)]; exact e, q.1, q.2⟩
theorem hid_more {D A it : Addr} {H H' : Hp} (s : Same (hid [D, A] H) (hid [D, A] H')) : Same (hid [D, A, it] H) (hid [D, A, it] H') := hid_but fun b o e n => by
  have nb : b ∉ [D, A] := fun hb => n (by
    rcases List.mem_cons.mp hb with rfl | hb
    · exact List.mem_cons_self ..
    · exact List.mem_cons_of_mem _ (by rw [List.mem_singleton.mp hb]; exact List.mem_cons_self ..))
  exact hid_sub _ _ (s _ _ (by rw [hid_at nb]; exact e))
theorem kept2 {D A : Addr} {H H' : Hp} (k : Kept D A H H') : Same (hid [D, A] H) (hid [D, A] H') := hid_kept k (List.mem_cons_self ..) (List.mem_cons_of_mem _ (List.mem_cons_self ..))
def sizesN : List Nat := [0, 1, 2, 9, 10, 99, 100, 101, 130]
theorem sizes_of {i : Nat} {v : V} (h : (sizesN.map fun n => V.int (n : Nat))[i]? = some v) : ∃ n : Nat, v = .int (n : Nat) ∧ n ≤ 130 := by
  rw [List.getElem?_map] at h
  obtain ⟨n, h1, rfl⟩ := Option.map_eq_some_iff.mp h
  refine ⟨n, rfl, ?_⟩
  have := List.mem_of_getElem? h1
  have hall : ∀ m ∈ sizesN, m ≤ 130 := by decide
  exact hall n this
theorem name_of {i : Nat} {v : V} (h : ([V.str "a", V.str "b"] : List V)[i]? = some v) : ∃ x : Str, v = .str x ∧ (x = "a" ∨ x = "b") := by
  match i, h with
  | 0, h => exact ⟨"a", (Option.some.inj h).symm, .inl rfl⟩
  | 1, h => exact ⟨"b", (Option.some.inj h).symm, .inr rfl⟩
theorem ok_ab {x : Str} (h : x = "a" ∨ x = "b") : okS x := by
  rcases h with rfl | rfl <;> (unfold okS; decide +kernel)
theorem Drw.cast {H : Hp} {D A B : Addr} {m n : Int} (h : Drw H D A B m) (e : m = n) : Drw H D A B n := e ▸ h

set_option maxHeartbeats 0
section
variable {P : Program} {w : World} {K : PySem.W.Frag} {mg : Str → Option Value} {base : Heap}
theorem make_ex {C : Addr} {H : Hp} {x dx : Addr} {want : Str} {v : V} {kv : List (Key × V)} {R : Hp → Prop} {E : XK} (nx : H x = none) (nd : H dx = none) (ne : dx ≠ x) (hw : want.length ≤ 100000) (hv : v = .non ∧ kv = [] ∨ ∃ d, v = .ref d ∧ H d = some (.dK kv)) (hk : kv = [] ∨ kv = skipK)
    (k : ∀ (H' : Hp), Same H H' → ExAt C H' (.ref x) (exD want kv) → R H') : sp_Example_init C [.ref x, .str "g\n", .str want, .non, .int 1, .int 0, v] (upd (upd H dx (.own x)) x (.ins C dx [])) (fun v H2 => v = .non ∧ R H2) E := by
  have put : ∀ {b : Addr} {o : HO}, H b = some o → (upd (upd H dx (.own x)) x (.ins C dx [])) b = some o := fun {b o} e => by
    rw [upd_ne (ne_of_none e nx), upd_ne (ne_of_none e nd)]
    exact e
  refine ⟨x, dx, v, kv, "g\n", want, [[103]], [], .non, 1, 0, rfl, ⟨by decide +kernel, ?_, by decide +kernel, by decide +kernel⟩, hw, .inl rfl, upd_same, ?_, ?_, fun H' fs o hx hf => ⟨rfl, k H' (fun b u e => o _ _ (put e) (ne_of_none e nx)) ⟨x, dx, fs, rfl, hx, hf⟩⟩⟩
  · unfold Rows10
    decide
  · rcases hv with h | ⟨d, e1, e2⟩
    · exact .inl h
    · exact .inr ⟨d, e1, put e2⟩
  · rcases hk with rfl | rfl
    · exact nofun
    · intro q hq
      rw [List.mem_singleton.mp hq]
      exact ⟨"SKIP", rfl, by decide +kernel⟩
def sp_law (K : PySem.W.Frag) : Sp := fun vs H Q _ => ∃ (a : Addr) (ns : List Int), vs = [.ref a] ∧ SqL K H a (ns.map V.int) ∧ ns.length ≤ 63 ∧ ∀ H', Q (.bl true) H'
theorem ok_law {f : Addr} {fd : FuncData} {dvs : List V} (F : Fn K "law" s_law dvs f fd) {C_Example : Addr} (T_Example : Txt_Example K mg C_Example) {C_Test : Addr} (T_Test : Txt_Test K mg C_Test) {C_Runner : Addr} (T_Runner : Txt_Runner K mg C_Runner) (O_law_draws : Own P w K mg base "_law_draws" 1 ["script"] [] (sp_law_draws K)) {E_Runner_init0 : Addr} (Q_E_Runner_init0 : ∀ H, SqT K H E_Runner_init0 []) (O_Runner_init_d2 : OwnI P w K mg base "Runner" C_Runner 7 ["self", "play", "flags"] [.ref E_Runner_init0] (sp_Runner_init K C_Runner)) (O_law_take : Own P w K mg base "_law_take" 2 ["draws", "size"] [] (sp_law_take)) (O_law_pick : Own P w K mg base "_law_pick" 3 ["draws", "some"] [] (sp_law_pick)) (O_Example_init_p3 : OwnI P w K mg base "Example" C_Example 4 ["self", "source", "want", "error", "line", "indent", "options"] [.non, .int 1, .int 0, .non] (sp_Example_init C_Example)) (O_Example_init_q2_K_options : OwnG P w K mg base "Example" C_Example 4 ["self", "source", "want", "error", "line", "indent", "options"] ["options"] 1 (gPut 4 [.str "", .non, .int 1, .int 0]) (sp_Example_init C_Example)) (O_Runner_run_d2 : OwnM P w K mg base C_Runner "run" 8 ["self", "test", "verbose", "clear"] [.bl false, .bl true] (sp_Runner_run C_Example C_Test C_Runner)) (O_Test_init_d4 : OwnI P w K mg base "Test" C_Test 2 ["self", "examples", "names", "name", "file", "line"] [.non, .non] (sp_Test_init C_Test)) (O_law_same : Own P w K mg base "_law_same" 4 ["found", "due"] [] (sp_law_same 4)) (O_law_totals : Own P w K mg base "_law_totals" 1 ["items", "name", "counts"] [] (sp_law_totals)) (O_Runner_total : OwnM P w K mg base C_Runner "total" 2 ["self"] [] (sp_Runner_total C_Runner)) (O_Runner_counts : OwnM P w K mg base C_Runner "counts" 1 ["self"] [] (sp_Runner_counts C_Runner)) (O_law_sum : Own P w K mg base "_law_sum" 1 ["items"] [] (sp_law_sum)) (O_Runner_summary_d1 : OwnM P w K mg base C_Runner "summary" 5 ["self", "verbose"] [.bl false] (sp_Runner_summary C_Runner)) (O_law_summary : Own P w K mg base "_law_summary" 3 ["items", "loud"] [] (sp_law_summary)) (O_Runner_summary : OwnM P w K mg base C_Runner "summary" 5 ["self", "verbose"] [] (sp_Runner_summary C_Runner)) (m_len : mg "len" = none) (m_range : mg "range" = none) : FnOk P w K mg base CX0 9 f fd ["script"] (sp_law K) := by
  refine Fn.okN F sc_law (fun vs H Q E h => ?_) (fun cdv A outer s H vs Q E hr h => ?_)
  · obtain ⟨_, _, rfl, _⟩ := h
    rfl
  · obtain ⟨a, ns, rfl, ha, hn, k⟩ := h
    refine ⟨_, (pss_cons (ps_set (i := 1) sc_law.nd rfl (.inr rfl) (pe_own O_law_draws (hr.mono (by decide)) (by rfl) (pa_cons (pv 0) pa_nil)))
      (pss_cons (ps_par (i := 2) (j := 3) (by rfl) sc_law.nd rfl rfl (by decide) rfl rfl (pa_cons (pe_ownI O_Runner_init_d2 (hr.mono (by decide)) (by rfl) (pa_cons (pe_disp (pps_cons pe_str (pe_lst (pa_cons (pe_tup (pa_cons pe_str (pa_cons pe_str pa_nil))) pa_nil)) pps_nil) (by rfl) (by rfl) (fun z => by cases z) (by decide)) pa_nil)) (pa_cons pe_dnewK pa_nil)) (by rfl))
      (pss_cons (ps_for PassesOwn.never rfl (pi_range1 rfl m_range (pa_cons (pe_op op_add pe_int (pe_own O_law_take (hr.mono (by decide)) (by rfl) (pa_cons (pv 1) (pa_cons pe_int pa_nil)))) pa_nil)) (pg_name (i := 4) sc_law.nd rfl (.inl rfl))
          (pss_cons (ps_asg (pe_tup (pa_cons (pe_own O_law_pick (hr.mono (by decide)) (by rfl) (pa_cons (pv 1) (pa_cons (pe_lst (pa_cons pe_str (pa_cons pe_str pa_nil))) pa_nil))) (pa_cons (pe_lst (pa_cons pe_int (pa_cons pe_int (pa_cons pe_int (pa_cons pe_int (pa_cons pe_int (pa_cons pe_int (pa_cons pe_int (pa_cons pe_int (pa_cons pe_int pa_nil)))))))))) pa_nil))) (pg_tup rfl (pgs_cons (pg_name (i := 5) sc_law.nd rfl (.inl rfl)) (pgs_cons (pg_name (i := 6) sc_law.nd rfl (.inr rfl)) pgs_nil))))
            (pss_cons (ps_asg (pe_lc (own := [("j", 13)]) (g := gName 13) (tt := tYes) (by rfl) sc_law.nd (pi_range1 rfl m_range (pa_cons pe_int pa_nil)) (blkOk_by (own := [("j", 13)]) (N := ["script", "draws", "runner", "items", "k", "name", "sizes", "good", "bad", "left", "some", "found", "due", "j"]) (sc := defScope s_law) (by decide +kernel)) (fun _ _ _ _ _ => (pg_name (i := 13) sc_law.nd rfl (.inl rfl))) (fun _ _ _ _ _ => pts_nil) (fun _ _ _ _ _ => (pe_own O_law_pick (hr.mono (by decide)) (by rfl) (pa_cons (pv 1) (pa_cons (pv 6) pa_nil))))) (pg_seqU rfl (pgs_cons (pg_name (i := 7) sc_law.nd rfl (.inl rfl)) (pgs_cons (pg_name (i := 8) sc_law.nd rfl (.inl rfl)) (pgs_cons (pg_name (i := 9) sc_law.nd rfl (.inl rfl)) pgs_nil)))))
            (pss_cons (ps_set (i := 10) sc_law.nd rfl (.inl rfl) (pe_op op_cat (pe_op op_rep (pe_lst (pa_cons (pe_ownI O_Example_init_p3 (hr.mono (by decide)) (by rfl) (pa_cons pe_str (pa_cons pe_str pa_nil))) pa_nil)) (pv 7)) (pe_op op_rep (pe_lst (pa_cons (pe_ownI O_Example_init_p3 (hr.mono (by decide)) (by rfl) (pa_cons pe_str (pa_cons pe_str pa_nil))) pa_nil)) (pe_op op_mul (pv 8) (pe_own O_law_take (hr.mono (by decide)) (by rfl) (pa_cons (pv 1) (pa_cons pe_int pa_nil)))))))
            (pss_cons (ps_set (i := 10) sc_law.nd rfl (.inl rfl) (pe_op op_cat (pv 10) (pe_op op_rep (pe_lst (pa_cons (pe_ownG O_Example_init_q2_K_options (hr.mono (by decide)) (by rfl) (pa_cons pe_str pa_nil) (pk_cons (pe_disp (pps_cons pe_str pe_bl pps_nil) (by rfl) (by rfl) (fun z => by cases z) (by decide)) pk_nil)) pa_nil)) (pv 9))))
            (pss_cons (ps_set (i := 11) sc_law.nd rfl (.inl rfl) (pe_ownM O_Runner_run_d2 (hr.mono (by decide)) (pv 2) (pa_cons (pe_ownI O_Test_init_d4 (hr.mono (by decide)) (by rfl) (pa_cons (pv 10) (pa_cons pe_non (pa_cons (pv 5) pa_nil)))) pa_nil)))
            (pss_cons (ps_set (i := 12) sc_law.nd rfl (.inl rfl) (pe_tup (pa_cons (pe_op op_sub (pe_op op_sub (pe_callB call_len_seq (by rfl) m_len PySem.boot_len (pa_cons (pv 10) pa_nil)) (pv 7)) (pv 9)) (pa_cons (pe_callB call_len_seq (by rfl) m_len PySem.boot_len (pa_cons (pv 10) pa_nil)) (pa_cons (pv 9) pa_nil)))))
            (pss_cons (ps_if (PW.pt (pw_or (pt_not (pt_val (pe_own O_law_same (hr.mono (by decide)) (by rfl) (pa_cons (pe_ix ix_tup (pv 11) pe_int (fun _ _ => rfl)) (pa_cons (pv 12) pa_nil))))) (pw_or1 (pt_cmpR op_ne (pe_callB call_len_seq (by rfl) m_len PySem.boot_len (pa_cons (pe_ix ix_tup (pv 11) pe_int (fun _ _ => rfl)) pa_nil)) (pe_callB call_len_seq (by rfl) m_len PySem.boot_len (pa_cons (pv 10) pa_nil)) (nomark _)))))
                (pss_one (ps_ret pe_bl))
                pss_nil)
            (pss_cons (ps_expr (pe_own O_law_totals (hr.mono (by decide)) (by rfl) (pa_cons (pv 3) (pa_cons (pv 5) (pa_cons (pv 12) pa_nil)))))
            (pss_cons (ps_if (pt_not (pt_val (pe_own O_law_same (hr.mono (by decide)) (by rfl) (pa_cons (pe_lst (pa_cons (pe_ownM0 O_Runner_total (hr.mono (by decide)) (pv 2)) (pa_cons (pe_ownM0 O_Runner_counts (hr.mono (by decide)) (pv 2)) pa_nil))) (pa_cons (pe_lst (pa_cons (pe_own O_law_sum (hr.mono (by decide)) (by rfl) (pa_cons (pv 3) pa_nil)) (pa_cons (pv 3) pa_nil))) pa_nil)))))
                (pss_one (ps_ret pe_bl))
                pss_nil)
            (pss_one (ps_if (PW.pt (pw_or (pt_cmpR op_ne (pe_ownM0 O_Runner_summary_d1 (hr.mono (by decide)) (pv 2)) (pe_own O_law_summary (hr.mono (by decide)) (by rfl) (pa_cons (pv 3) (pa_cons pe_bl pa_nil))) (nomark _)) (pw_or1 (pt_cmpR op_ne (pe_ownM O_Runner_summary (hr.mono (by decide)) (pv 2) (pa_cons pe_bl pa_nil)) (pe_own O_law_summary (hr.mono (by decide)) (by rfl) (pa_cons (pv 3) (pa_cons pe_bl pa_nil))) (nomark _)))))
                (pss_one (ps_ret pe_bl))
                pss_nil))))))))))))
      (pss_one (ps_ret pe_bl))))), ?_⟩
    refine ⟨.ref a, rfl, a, ns, rfl, ha, hn, fun H1 D A B s1 dr nD nA => ?_⟩
    -- the runner
    refine fun pd npd => ?_
    refine ⟨(show 2 ≤ sizeLine by decide), fun tp ntp => ⟨(show 1 ≤ sizeLine by decide), fun lp nlp => ?_⟩⟩
    have sp1 := same_new (o := .dK []) npd
    have st1 := same_new (o := .tup [V.str "print", V.str "a"]) ntp
    have sl1 := same_new (o := .lst [V.ref tp]) nlp
    have et : (upd (upd H1 pd (.dK [])) tp (.tup [V.str "print", V.str "a"])) tp = some (.tup [V.str "print", V.str "a"]) := upd_same
    refine ⟨sl1 _ _ (st1 _ _ upd_same), [(Sum.inr "g\n", .ref lp)], rfl, (show 1 ≤ 15 by decide), ?_⟩
    have hpe : (upd (upd (upd H1 pd (.dK [])) tp (.tup [V.str "print", V.str "a"])) lp (.lst [V.ref tp])) pd = some (.dK []) := sl1 _ _ (st1 _ _ upd_same)
    have hlp : (upd (upd (upd H1 pd (.dK [])) tp (.tup [V.str "print", V.str "a"])) lp (.lst [V.ref tp])) lp = some (.lst [V.ref tp]) := upd_same
    have htp := sl1 _ _ et
    have s14 : Same H1 (upd (upd (upd H1 pd (.dK [])) tp (.tup [V.str "print", V.str "a"])) lp (.lst [V.ref tp])) := sp1.trans (st1.trans sl1)
    generalize upd (upd (upd H1 pd (.dK [])) tp (.tup [V.str "print", V.str "a"])) lp (.lst [V.ref tp]) = H4 at hpe hlp htp s14 ⊢
    have s15 : Same H1 (upd H4 pd (.dK (mergeK [] [(Sum.inr "g\n", V.ref lp)]))) := put_ok s14 npd
    have pd5 : (upd H4 pd (.dK (mergeK [] [(Sum.inr "g\n", V.ref lp)]))) pd = some (.dK [(Sum.inr "g\n", V.ref lp)]) := upd_same
    have lp5 : (upd H4 pd (.dK (mergeK [] [(Sum.inr "g\n", V.ref lp)]))) lp = some (.lst [V.ref tp]) := by
      rw [upd_ne (fun z => by rw [z, hpe] at hlp; cases hlp)]
      exact hlp
    have tp5 : (upd H4 pd (.dK (mergeK [] [(Sum.inr "g\n", V.ref lp)]))) tp = some (.tup [V.str "print", V.str "a"]) := by
      rw [upd_ne (fun z => by rw [z, hpe] at htp; cases htp)]
      exact htp
    generalize upd H4 pd (.dK (mergeK [] [(Sum.inr "g\n", V.ref lp)])) = H5 at s15 pd5 lp5 tp5 ⊢
    refine fun r dx nr ndx ne => ?_
    have put : ∀ {b : Addr} {o : HO}, H5 b = some o → (upd (upd H5 dx (.own r)) r (.ins C_Runner dx [])) b = some o := fun {b o} e => by
      rw [upd_ne (ne_of_none e nr), upd_ne (ne_of_none e ndx)]
      exact e
    refine ⟨r, dx, pd, E_Runner_init0, _, W0, [], rfl, upd_same, put pd5, ⟨rfl, fun i q p a b => ?_⟩, by decide, by decide, fun H2 _ => .inr (Q_E_Runner_init0 H2), nofun, fun H6 q g c ds o6 rn nq ng nc => ⟨rfl, fun it nit => ⟨_, _, rfl, ?_⟩⟩⟩
    · have hi : i = 0 := by
        have := (List.getElem?_eq_some_iff.mp b).1
        have e : (PlayD actL W0).length = 1 := rfl
        omega
      subst hi
      cases a
      cases b
      exact ⟨lp, _, rfl, put lp5, .cons ⟨tp, _, rfl, put tp5, .cons rfl (.cons rfl .nil), (show 2 ≤ 1000 by decide)⟩ .nil, (show 1 ≤ 1000 by decide)⟩
    have s16 : Same H1 H6 := fun b o e => o6 _ _ (put (s15 _ _ e)) (ne_of_none (s15 _ _ e) nr)
    have s67 := same_new (o := .dK []) nit
    have rn7 := rn.same s67
    have dr7 := (dr.same s16).same s67
    have it7 : (upd H6 it (.dK [])) it = some (.dK []) := upd_same
    have fr1 : ∀ {b : Addr}, (upd (upd H5 dx (.own r)) r (.ins C_Runner dx [])) b = none → b ≠ D ∧ b ≠ A := fun {b} e => by
      obtain ⟨as, bs, cc, e1, e2, e3⟩ := dr.ex
      exact ⟨fun z => (by rw [z, put (s15 _ _ e1)] at e; cases e), fun z => (by rw [z, put (s15 _ _ e2)] at e; cases e)⟩
    have qit : q ≠ it := ne_of_none rn.play nit
    have cit : c ≠ it := ne_of_none rn.cnts nit
    have git : g ≠ it := ne_of_none rn.flags nit
    have gD := fr1 ng
    have qD := fr1 nq
    have cD := fr1 nc
    have fS : g ∉ [D, A, it] := by simp [gD.1, gD.2, git]
    have pS : q ∉ [D, A, it] := by simp [qD.1, qD.2, qit]
    have cS : c ∉ [D, A, it] := by simp [cD.1, cD.2, cit]
    generalize upd H6 it (.dK []) = H7 at rn7 dr7 it7
    refine ⟨.ref D, rfl, D, A, B, 0, 5, rfl, dr7, by decide, by decide, by decide, fun r0 H8 ra rb d8 k8 => ⟨_, _, rfl, rfl, ?_⟩⟩
    have l7 := liv_of dr7 it7
    have rn8 := (rn7.hide l7 fS pS cS).same (hid_more (kept2 k8))
    have it8 : H8 it = some (.dK []) := k8 _ _ it7 (fun z => by
      obtain ⟨_, _, _, e1, _, _⟩ := dr7.ex
      rw [← z, it7] at e1
      cases e1) (fun z => by
      obtain ⟨_, _, _, _, e1, _⟩ := dr7.ex
      rw [← z, it7] at e1
      cases e1)
    clear rn rn7 s14 s15 s16 s67 put fr1 k8 l7 it7 dr7 o6 nq ng nc pd5 lp5 tp5 hpe hlp htp nit
    refine ⟨1 + r0, rfl, by omega, by omega, for_range (lo := 0) (n := (1 + r0).toNat) (fun i σ H2 => ∃ (m : Int) (kvs kvl : List (Key × V)) (items : List (Str × T3)) (v4 v5 v6 v7 v8 v9 v10 v11 v12 : Option V), σ = [some (.ref a), some (.ref D), some (.ref r), some (.ref it), v4, v5, v6, v7, v8, v9, v10, v11, v12, none] ∧ Drw H2 D A B m ∧ m ≤ 100 * i + 1 ∧ RnAt C_Runner (hid [D, A, it] H2) r dx q g c ds kvs W0 [] items ∧ H2 it = some (.dK kvl) ∧ CntAt (hid [D, A, it] H2) kvl items ∧ ItemsOk i items) ⟨1, [], [], [], _, _, _, _, _, _, _, _, _, rfl, d8, by omega, rn8, it8, .nil, ⟨List.nodup_nil, nofun, Nat.le_refl _, nofun⟩⟩ ?_ ?_⟩
    · rintro i σ Ha hi ⟨m, kvs, kvl, items, v4, v5, v6, v7, v8, v9, v10, v11, v12, rfl, da, hm, rna, ita, cla, iok⟩
      have i4 : i ≤ 4 := by omega
      have mp := da.pos
      -- the name
      refine ⟨.ref D, rfl, (show 2 ≤ sizeLine by decide), fun La nLa => ?_⟩
      generalize g1 : upd Ha La _ = Hb
      obtain ⟨db, sb, eLa, LaD, LaA⟩ := laidD da g1 nLa
      refine ⟨D, A, B, La, m, [V.str "a", V.str "b"], rfl, db, by omega, .inl (hid_sub _ _ eLa), LaD, LaA, by decide, by decide, fun i0 v Hc hv dc kc => ?_⟩
      obtain ⟨name, rfl, hnm⟩ := name_of hv
      have sc := sb.trans (kept2 kc)
      refine ⟨(show 9 ≤ sizeLine by decide), fun Ls nLs => ?_⟩
      generalize g2 : upd Hc Ls _ = Hd
      obtain ⟨dd, sd, eLs, LsD, LsA⟩ := laidD dc g2 nLs
      refine ⟨(show 2 ≤ sizeLine by decide), fun T0 nT0 => ?_⟩
      generalize g3 : upd Hd T0 _ = He
      obtain ⟨de, se, eT0, _, _⟩ := laidD dd g3 nT0
      have sae := sc.trans (sd.trans se)
      have eLse := se _ _ eLs
      refine ⟨T0, _, rfl, SqT.of (hid_sub _ _ eT0), rfl, _, _, rfl, _, _, rfl, rfl, ?_⟩
      have sDA : D ∈ [D, A] ∧ A ∈ [D, A] := ⟨List.mem_cons_self .., List.mem_cons_of_mem _ (List.mem_cons_self ..)⟩
      -- the sizes
      refine ⟨3, rfl, by decide, by decide, fun C nC => ?_⟩
      have CD := fresh_ne de nC
      have CN := drw_new de nC
      refine lc_range (lo := 0) (n := 3) (fun j H => ∃ js : List Nat, Drw H D A B (m + 1 + j) ∧ Same (hid [D, A] He) (hid [D, A] H) ∧ H C = some (.lst (js.map fun z => V.int (z : Nat))) ∧ js.length = j ∧ ∀ z ∈ js, z ≤ 130) ⟨[], (de.new nC : Drw _ D A B (m + 1)).cast (by omega), hid_same (same_new nC), upd_same, rfl, nofun⟩ (fun j H hj h => ?_) (fun Hg h => ?_)
      · obtain ⟨js, dj, sj, eC, hl, hb⟩ := h
        refine ⟨rfl, ?_⟩
        unfold tYes
        show ite (true = true) _ _
        rw [if_pos rfl]
        refine ⟨.ref D, rfl, .ref Ls, rfl, D, A, B, Ls, m + 1 + j, sizesN.map (fun n => V.int (n : Nat)), rfl, dj, by omega, .inl (hid_sub _ _ (sj _ _ eLse)), LsD, LsA, by decide, by decide, fun i1 v1 H5 hv1 d5 k5 => ?_⟩
        obtain ⟨z, rfl, hz⟩ := sizes_of hv1
        refine ⟨_, k5 _ _ eC CD.1 CD.2, by rw [List.length_map, hl]; exact small_line (by omega), js ++ [z], (d5.upd CD.1 CD.2 (fun w => ?_)).cast (by omega), hid_put (sj.trans (kept2 k5)) nC, by rw [upd_same, List.map_append]; rfl, by rw [List.length_append, hl]; rfl, fun w hw => ?_⟩
        · obtain ⟨_, _, ⟨o, eB⟩⟩ := de.tracked
          rw [w, eB] at nC
          cases nC
        · rcases List.mem_append.mp hw with hw | hw
          · exact hb w hw
          · rw [List.mem_singleton.mp hw]
            exact hz
      obtain ⟨js, dg, sg, eC, hl, hb⟩ := h
      obtain ⟨good, bad, left, rfl⟩ : ∃ x y z, js = [x, y, z] := by
        match js, hl with
        | [x, y, z], _ => exact ⟨x, y, z, rfl⟩
      have hg := hb good (List.mem_cons_self ..)
      have hbd := hb bad (List.mem_cons_of_mem _ (List.mem_cons_self ..))
      have hlf := hb left (List.mem_cons_of_mem _ (List.mem_cons_of_mem _ (List.mem_cons_self ..)))
      have sag := sae.trans sg
      refine ⟨C, _, rfl, SqL.of eC, rfl, _, _, rfl, _, _, rfl, _, _, rfl, rfl, ?_⟩
      clear sg eC hl hb sae se sd sc sb eLse eT0 eLs g1 g2 g3 nC nT0 nLs nLa db dc dd de kc
      -- good ones
      refine fun x1 dx1 nx1 nd1 ne1 => make_ex nx1 nd1 ne1 (by decide +kernel) (.inl ⟨rfl, rfl⟩) (.inl rfl) fun Hh sh ex1 => ?_
      have dh := dg.same sh
      have sah := sag.trans (hid_same sh)
      have ex1 := ex1.hide (drw_lst dh)
      refine ⟨(show 1 ≤ sizeLine by decide), fun L1 nL1 => ?_⟩
      generalize g1 : upd Hh L1 _ = Hi
      obtain ⟨di, si, eL1, _, _⟩ := laidD dh g1 nL1
      refine ⟨.int (good : Nat), rfl, L1, _, _, rfl, rfl, hid_sub _ _ eL1, by omega, by omega, sz (show 1 * ((good : Nat) : Int).toNat ≤ _ by omega), fun P1 nP1 => ?_⟩
      generalize g2 : upd Hi P1 _ = Hj
      obtain ⟨dj, sj, eP1, _, _⟩ := laidD di g2 nP1
      have saj := sah.trans (si.trans sj)
      have ex1j := ex1.same (si.trans sj)
      clear si sj sah ex1 g1 g2 eL1 dh sh
      -- bad ones
      refine fun x2 dx2 nx2 nd2 ne2 => make_ex nx2 nd2 ne2 (by decide +kernel) (.inl ⟨rfl, rfl⟩) (.inl rfl) fun Hk sk ex2 => ?_
      have dk := dj.same sk
      have sak := saj.trans (hid_same sk)
      have ex2 := ex2.hide (drw_lst dk)
      have ex1k := ex1j.same (hid_same sk)
      have eP1k := (hid_same sk) _ _ eP1
      refine ⟨(show 1 ≤ sizeLine by decide), fun L2 nL2 => ?_⟩
      generalize g1 : upd Hk L2 _ = Hl
      obtain ⟨dl, sl, eL2, L2D, L2A⟩ := laidD dk g1 nL2
      refine ⟨.int (bad : Nat), rfl, .ref D, rfl, D, A, B, _, 2, rfl, dl, by omega, by decide, by decide, fun r1 Hm r1a r1b dm km => ?_⟩
      have skm := sl.trans (kept2 km)
      have sam := sak.trans skm
      have ex1m := ex1k.same skm
      have ex2m := ex2.same skm
      have eP1m := skm _ _ eP1k
      have eL2m := kept2 km _ _ eL2
      obtain ⟨tms, htm, hbt⟩ : ∃ tms : Nat, ((bad : Nat) : Int) * r1 = (tms : Nat) ∧ tms ≤ 130 := by
        rcases (by omega : r1 = 0 ∨ r1 = 1) with rfl | rfl
        · exact ⟨0, by omega, by omega⟩
        · exact ⟨bad, by omega, hbd⟩
      refine ⟨_, _, rfl, rfl, .inr ⟨by omega, by omega⟩, ?_⟩
      refine ⟨L2, (tms : Nat), _, rfl, congrArg V.int htm, hid_sub _ _ eL2m, by omega, by omega, sz (show 1 * ((tms : Nat) : Int).toNat ≤ _ by omega), fun P2 nP2 => ?_⟩
      generalize g2 : upd Hm P2 _ = Hn
      obtain ⟨dn, sn, eP2, _, _⟩ := laidD dm g2 nP2
      have san := sam.trans sn
      have ex1n := ex1m.same sn
      have ex2n := ex2m.same sn
      have eP1n := sn _ _ eP1m
      refine ⟨P1, P2, _, _, rfl, rfl, hid_sub _ _ eP1n, hid_sub _ _ eP2, ?_, fun P3 nP3 => ?_⟩
      · rw [flat_rep2, flat_rep2, List.length_replicate, List.length_replicate]
        exact sz (by omega)
      rw [flat_rep2, flat_rep2]
      generalize g3 : upd Hn P3 _ = Ho
      obtain ⟨do_, so, eP3, _, _⟩ := laidD dn g3 nP3
      have sao := san.trans so
      have ex1o := ex1n.same so
      have ex2o := ex2n.same so
      clear san sn ex1n ex2n eP1n ex1m ex2m ex2 ex1k ex1j eP1k eP1m eL2m sam skm sl km eL2 eP2 eP1 sak saj sag g1 g2 g3 dn dm dl dk dj di dg sk
      -- skipped ones
      refine ⟨.ref P3, rfl, fun od nod => ?_⟩
      have dod := do_.new (o := .dK []) nod
      have sod := hid_same (S := [D, A]) (same_new (o := .dK []) nod)
      refine ⟨upd_same, [(Sum.inr "SKIP", .bl true)], rfl, (show 1 ≤ 15 by decide), ?_⟩
      have sok : Same Ho (upd (upd Ho od (.dK [])) od (.dK (mergeK [] [(Sum.inr "SKIP", .bl true)]))) := put_ok (same_new nod) nod
      have eod : (upd (upd Ho od (.dK [])) od (.dK (mergeK [] [(Sum.inr "SKIP", .bl true)]))) od = some (.dK skipK) := upd_same
      generalize upd (upd Ho od (.dK [])) od (.dK (mergeK [] [(Sum.inr "SKIP", .bl true)])) = Hp1 at sok eod ⊢
      refine ⟨rfl, rfl, fun x3 dx3 nx3 nd3 ne3 => make_ex nx3 nd3 ne3 (by decide +kernel) (.inr ⟨od, rfl, eod⟩) (.inr rfl) fun Hq sq ex3 => ?_⟩
      have dq := do_.same (sok.trans sq)
      have soq := hid_same (S := [D, A]) (sok.trans sq)
      have saq := sao.trans soq
      have ex1q := ex1o.same soq
      have ex2q := ex2o.same soq
      have eP3q := soq _ _ eP3
      have ex3 := ex3.hide (drw_lst dq)
      refine ⟨(show 1 ≤ sizeLine by decide), fun L3 nL3 => ?_⟩
      generalize g1 : upd Hq L3 _ = Hr
      obtain ⟨dr9, sr, eL3, _, _⟩ := laidD dq g1 nL3
      refine ⟨.int (left : Nat), rfl, L3, _, _, rfl, rfl, hid_sub _ _ eL3, by omega, by omega, sz (show 1 * ((left : Nat) : Int).toNat ≤ _ by omega), fun P4 nP4 => ?_⟩
      generalize g2 : upd Hr P4 _ = Hs
      obtain ⟨ds9, ss, eP4, _, _⟩ := laidD dr9 g2 nP4
      have eP3s := ss _ _ (sr _ _ eP3q)
      refine ⟨P3, P4, _, _, rfl, rfl, hid_sub _ _ eP3s, hid_sub _ _ eP4, ?_, fun P5 nP5 => ?_⟩
      · rw [flat_rep2, List.length_append, List.length_replicate, List.length_replicate, List.length_replicate]
        exact sz (by omega)
      rw [flat_rep2]
      generalize g3 : upd Hs P5 _ = Ht
      obtain ⟨dt, st, eP5, _, _⟩ := laidD ds9 g3 nP5
      have sqt := sr.trans (ss.trans st)
      have sat := saq.trans sqt
      have ex1t := ex1q.same sqt
      have ex2t := ex2q.same sqt
      have ex3t := ex3.same sqt
      clear sqt ex1q ex2q ex3 saq sao so soq eP3s eP4 eL3 g1 g2 g3 dr9 ds9 dq sr ss st eP3q eP3 sq sok eod dod sod do_ ex1o ex2o
      have tg : ((good : Nat) : Int).toNat = good := by omega
      have tt : ((tms : Nat) : Int).toNat = tms := by omega
      have tlf : ((left : Nat) : Int).toNat = left := by omega
      rw [tg, tt, tlf] at eP5
      have hlen : (List.replicate good (V.ref x1) ++ List.replicate tms (V.ref x2) ++ List.replicate left (V.ref x3)).length = good + tms + left := by
        simp only [List.length_append, List.length_replicate]
      have hex : Paired (ExAt C_Example (hid [D, A] Ht)) (List.replicate good (V.ref x1) ++ List.replicate tms (V.ref x2) ++ List.replicate left (V.ref x3)) (List.replicate good (exD "a\n" []) ++ List.replicate tms (exD "b\n" []) ++ List.replicate left (exD "" skipK)) := paired_app (paired_app (paired_rep ex1t _) (paired_rep ex2t _)) (paired_rep ex3t _)
      have hes : ∀ e ∈ List.replicate good (exD "a\n" []) ++ List.replicate tms (exD "b\n" []) ++ List.replicate left (exD "" skipK), ∃ want kv, e = exD want kv ∧ (want = "a\n" ∨ want = "b\n" ∨ want = "") ∧ (kv = [] ∨ kv = skipK) := fun e he => by
        rcases List.mem_append.mp he with he | he
        · rcases List.mem_append.mp he with he | he
          · exact ⟨_, _, List.eq_of_mem_replicate he, .inl rfl, .inl rfl⟩
          · exact ⟨_, _, List.eq_of_mem_replicate he, .inr (.inl rfl), .inl rfl⟩
        · exact ⟨_, _, List.eq_of_mem_replicate he, .inr (.inr rfl), .inr rfl⟩
      have hw : rnW W0 [] false (List.replicate good (exD "a\n" []) ++ List.replicate tms (exD "b\n" []) ++ List.replicate left (exD "" skipK)) = List.replicate good ("success" : Str) ++ List.replicate tms ("failure" : Str) ++ List.replicate left ("skipped" : Str) := by
        rw [rnW_all fun e he => by
          obtain ⟨want, kv, rfl, _, hk⟩ := hes e he
          exact no_fast hk]
        rw [List.map_append, List.map_append, List.map_replicate, List.map_replicate, List.map_replicate, w_good, w_bad, w_skip]
      have hrun : ∀ e ∈ List.replicate good (exD "a\n" []) ++ List.replicate tms (exD "b\n" []) ++ List.replicate left (exD "" skipK), ∃ i, RunOk W0 [] e i := fun e he => by
        obtain ⟨want, kv, rfl, h1, hk⟩ := hes e he
        exact ⟨0, run_ok h1 hk⟩
      clear hes ex1t ex2t ex3t
      generalize List.replicate good (V.ref x1) ++ List.replicate tms (V.ref x2) ++ List.replicate left (V.ref x3) = exs at eP5 hlen hex
      generalize List.replicate good (exD "a\n" []) ++ List.replicate tms (exD "b\n" []) ++ List.replicate left (exD "" skipK) = es at hex hw hrun
      have sat3 := hid_more (it := it) sat
      have itt : Ht it = some (.dK kvl) := hid_sub _ _ (sat _ _ (by
        rw [hid_at (fun hb => by
          obtain ⟨_, z⟩ := drw_lst da it hb
          rw [ita] at z
          cases z)]
        exact ita))
      have rnt := rna.same sat3
      have clt := cla.mono (fun t c e => sat3 _ _ e)
      have lt3 := liv_of dt itt
      have rnr := rnt.same hid_sub
      refine ⟨.ref r, rfl, r, dx, _, rfl, rnr.ins, rfl, .ref P5, rfl, .str name, rfl, fun t dxt nt ndt net => ?_⟩
      have eP5t := hid_sub _ _ eP5
      have put : ∀ {b : Addr} {o : HO}, Ht b = some o → (upd (upd Ht dxt (.own t)) t (.ins C_Test dxt [])) b = some o := fun {b o} e => by
        rw [upd_ne (ne_of_none e nt), upd_ne (ne_of_none e ndt)]
        exact e
      refine ⟨t, dxt, P5, exs, name, rfl, upd_same, put eP5t, fun Hu nm ex ou htu hexu nex => ⟨rfl, ?_⟩⟩
      have su : Same Ht Hu := fun b o e => ou _ _ (put e) (ne_of_none e nt)
      have du := dt.same su
      have itu := su _ _ itt
      have rnu := rnr.same su
      have rt : r ≠ t := ne_of_none rnr.ins nt
      have lnm : name.length ≤ 1000 := by
        have e1 : ("a" : Str).length = 1 := by decide +kernel
        have e2 : ("b" : Str).length = 1 := by decide +kernel
        rcases hnm with rfl | rfl <;> omega
      have hli := iok.len
      refine ⟨r, dx, q, g, c, ds, kvs, W0, [], items, t, dxt, ex, .ref nm, name, .non, exs, es, true, rfl, rnu, by decide, htu, rt, hexu, paired_imp (fun _ _ h => (h.same hid_sub).same su) hex, by omega, hrun, by omega, lnm, fun Hv kvs2 qq cq wq nm2 rep o2 rnv htv hqv hcv hwv nq ncq nwq => ?_⟩
      rw [hw] at rnv hcv hwv
      rw [cnt_words] at rnv hcv
      have kv2 : ∀ {b : Addr} {o : HO}, Hu b = some o → (∀ D dx fs, o ≠ .ins D dx fs) → b ≠ c → Hv b = some o := fun {b o} e n1 n2 => o2 _ _ e (fun z => by
        rw [z, htu] at e
        cases e
        exact n1 _ _ _ rfl) n2
      have nc : ∀ {b : Addr} {o : HO}, Hu b = some o → (∀ ks, o ≠ .dK ks) → b ≠ c := fun {b o} e n1 z => by
        rw [z, rnu.cnts] at e
        cases e
        exact n1 _ rfl
      have dv : Drw Hv D A B (m + 1 + 3 + 1) := by
        obtain ⟨as, bs, cc, e1, e2, e3⟩ := du.ex
        exact ⟨⟨as, bs, cc, kv2 e1 nofun (nc e1 nofun), kv2 e2 nofun (nc e2 nofun), kv2 e3 nofun (nc e3 nofun)⟩, du.ab, du.pos⟩
      have itv : Hv it = some (.dK kvl) := kv2 itu nofun cit.symm
      have clu : CntAt Hu kvl items := clt.mono fun t c e => su _ _ (hid_sub _ _ e)
      have clv : CntAt Hv kvl items := clu.mono fun t c e => kv2 e nofun (nc e nofun)
      have eP5u := su _ _ eP5t
      have eP5v : Hv P5 = some (.lst exs) := kv2 eP5u nofun (nc eP5u nofun)
      have iok2 : ItemsOk (i + 1) (plusI items name (tms, good + tms + left, left)) := iok.plus hnm (show tms ≤ good + tms + left by omega) (show good + tms + left ≤ 390 by omega) (show left ≤ 390 by omega)
      clear rnr rnt rna sat3 clt cla lt3 itt clu eP5u eP5t put su du itu rnu ou o2 htu hexu nex hex hrun htv nt ndt hw kv2 nc eP5 sat dt ita da lnm
      -- what is due
      have ed : ((exs.length : Nat) : Int) - ((good : Nat) : Int) - ((left : Nat) : Int) = ((tms : Nat) : Int) := by omega
      refine ⟨.ref P5, rfl, P5, _, rfl, .inl (SqL.of eP5v), .int (good : Nat), rfl, _, _, rfl, rfl, .int (left : Nat), rfl, _, _, rfl, rfl, .ref P5, rfl, P5, _, rfl, .inl (SqL.of eP5v), .int (left : Nat), rfl, (show 3 ≤ sizeLine by decide), fun T nT => ?_⟩
      have sT := same_new (o := .tup [V.int (((exs.length : Nat) : Int) - ((good : Nat) : Int) - ((left : Nat) : Int)), .int (exs.length : Nat), .int (left : Nat)]) nT
      have eT : (upd Hv T (.tup [V.int (((exs.length : Nat) : Int) - ((good : Nat) : Int) - ((left : Nat) : Int)), .int (exs.length : Nat), .int (left : Nat)])) T = some (tri (tms, good + tms + left, left)) := by
        rw [upd_same, ed, hlen]
        rfl
      have dw := dv.same sT
      have rnw := rnv.same sT
      have itw := sT _ _ itv
      have clw : CntAt (upd Hv T (.tup [V.int (((exs.length : Nat) : Int) - ((good : Nat) : Int) - ((left : Nat) : Int)), .int (exs.length : Nat), .int (left : Nat)])) kvl items := clv.mono fun t c e => sT _ _ e
      have hqw := sT _ _ hqv
      have hcw := sT _ _ hcv
      have hww := sT _ _ hwv
      have eP5w := sT _ _ eP5v
      clear clv rnv itv hqv hcv hwv eP5v dv
      generalize upd Hv T (.tup [V.int (((exs.length : Nat) : Int) - ((good : Nat) : Int) - ((left : Nat) : Int)), .int (exs.length : Nat), .int (left : Nat)]) = Hw at eT dw rnw itw clw hqw hcw hww eP5w ⊢
      refine ⟨.ref qq, rfl, qq, _, 0, .ref cq, rfl, rfl, SqT.of hqw, rfl, .ref T, rfl, .ref cq, .ref T, rfl, (sq_tri 2 hcw eT).sm, fun Hx sx => ⟨true, rfl, ?_⟩⟩
      have dx1 := dw.same sx
      have rnx := rnw.same sx
      have itx := sx _ _ itw
      have clx : CntAt Hx kvl items := clw.mono fun t c e => sx _ _ e
      have hqx := sx _ _ hqw
      have hwx := sx _ _ hww
      have eP5x := sx _ _ eP5w
      have eTx := sx _ _ eT
      clear clw rnw itw hqw hcw hww eP5w dw eT
      refine iteF ⟨.ref qq, rfl, qq, _, 1, .ref wq, rfl, rfl, SqT.of hqx, rfl, wq, _, rfl, .inl (SqL.of hwx), .ref P5, rfl, P5, _, rfl, .inl (SqL.of eP5x), rfl, false, ?_, iteF ?_⟩
      · rw [List.length_map, List.length_append, List.length_append, List.length_replicate, List.length_replicate, List.length_replicate, hlen]
        rw [decide_eq_true rfl]
        rfl
      -- the totals
      refine ⟨.ref it, rfl, .str name, rfl, .ref T, rfl, it, T, name, kvl, items, _, rfl, itx, clx, eTx, by omega, fun Hy kvl2 oy ity cly => ?_⟩
      have lx := liv_of dx1 itx
      have rny := (rnx.hide lx fS pS cS).same (hid_but fun b o e n => oy b o e (fun z => n (by rw [z]; simp)))
      have dy : Drw Hy D A B (m + 1 + 3 + 1) := by
        obtain ⟨as, bs, cc, e1, e2, e3⟩ := dx1.ex
        have ni : ∀ {b : Addr} {xs : List V}, Hx b = some (.lst xs) → b ≠ it := fun {b xs} e z => by
          rw [z, itx] at e
          cases e
        exact ⟨⟨as, bs, cc, oy _ _ e1 (ni e1), oy _ _ e2 (ni e2), oy _ _ e3 (ni e3)⟩, dx1.ab, dx1.pos⟩
      clear rnx clx itx lx dx1 oy eTx eP5x hqx hwx
      generalize plusI items name (tms, good + tms + left, left) = items2 at rny cly iok2
      have rnz := rny.same hid_sub
      have h5 : i + 1 ≤ 5 := by omega
      have hl2 := iok2.len
      have nd2 := iok2.nd
      have lsn : (items2.map (·.1)).length ≤ 60 := by
        rw [List.length_map]
        omega
      have sumAt : ∀ H, Hy it = H it → CntAt H kvl2 items2 → SumAt H it (items2.map (·.1)) (lookT items2) := fun H e h => ⟨kvl2, e ▸ ity, by rw [items_back nd2]; exact h⟩
      have nmk : ∀ ns : List Str, ns.Perm (items2.map (·.1)) → sortedS ns = true → NmOk ns (lookT items2) := fun ns pm _ => iok2.nmOk h5 pm
      refine ⟨.ref r, rfl, r, dx, _, rfl, rnz.ins, rfl, r, dx, q, g, c, ds, kvs2, W0, [], items2, rfl, rnz, by omega, fun Ha1 q1 sa1 nq1 hq1 => ?_⟩
      have rn1 := rnz.same sa1
      refine ⟨.ref r, rfl, r, dx, _, rfl, rn1.ins, rfl, r, dx, q, g, c, ds, kvs2, W0, [], items2, rfl, rn1, by omega, nd2, fun Ha2 q2 ns pm so sa2 nq2 hq2 => ?_⟩
      refine ⟨(show 2 ≤ sizeLine by decide), fun LA nLA => ?_⟩
      generalize g1 : upd Ha2 LA _ = Ha3
      obtain ⟨sa3, eLA⟩ := laid g1 nLA
      have sy3 := sa1.trans (sa2.trans sa3)
      have it3 := sy3 _ _ ity
      have cl3 : CntAt Ha3 kvl2 items2 := cly.mono fun t c e => sy3 _ _ e
      refine ⟨.ref it, rfl, it, items2.map (·.1), lookT items2, rfl, ⟨kvl2, it3, by rw [items_back nd2]; exact cl3⟩, by omega, fun Ha4 q3 sa4 nq3 hq3 => ?_⟩
      refine ⟨.ref it, rfl, (show 2 ≤ sizeLine by decide), fun LB nLB => ?_⟩
      generalize g2 : upd Ha4 LB _ = Ha5
      obtain ⟨sa5, eLB⟩ := laid g2 nLB
      have s35 := sa4.trans sa5
      have sy5 := sy3.trans s35
      have it5 := sy5 _ _ ity
      have cl5 : CntAt Ha5 kvl2 items2 := cly.mono fun t c e => sy5 _ _ e
      have hq25 := hq2.same (sa3.trans s35)
      have hq15 := (sa2.trans (sa3.trans s35)) _ _ hq1
      have hq35 := sa5 _ _ hq3
      rw [names_look nd2] at hq35
      have q2it : q2 ≠ it := fun z => by
        rw [z, sa1 _ _ ity] at nq2
        cases nq2
      have sm : Sm Ha5 4 (.ref LA) (.ref LB) := by
        refine .inr (.inl ⟨LA, LB, _, _, rfl, rfl, .inl ⟨s35 _ _ eLA, eLB⟩, .cons (sq_tri 1 hq15 hq35).sm (.cons (.inr (.inr ?_)) .nil), (show 2 ≤ 1000 by decide)⟩)
        obtain ⟨kq, e1, c1⟩ := hq25
        refine ⟨q2, it, kq, kvl2, ns, items2.map (·.1), rfl, rfl, q2it, e1, it5, ?_, cnt_keys cl5, pm, by omega, fun z hz => ok_ab (iok2.nm z hz), fun z hz => ?_⟩
        · rw [cnt_keys c1, items_names]
        · obtain ⟨t1, a1, b1⟩ := cnt_at c1 (pm.mem_iff.mpr hz)
          have c2 : CntAt Ha5 kvl2 (itemsOf (items2.map (·.1)) (lookT items2)) := by
            rw [items_back nd2]
            exact cl5
          obtain ⟨t2, a2, b2⟩ := cnt_at c2 hz
          exact ⟨_, _, a1, a2, sq_tri 0 b1 b2⟩
      refine ⟨.ref LA, .ref LB, rfl, sm, fun Ha6 sa6 => ⟨true, rfl, iteF ?_⟩⟩
      have sy6 := sy5.trans sa6
      have rn6 := rnz.same sy6
      have sumY : ∀ {H : Hp}, Same Hy H → SumAt H it (items2.map (·.1)) (lookT items2) := fun {H} s => ⟨kvl2, s _ _ ity, by rw [items_back nd2]; exact cly.mono fun t c e => s _ _ e⟩
      refine ⟨.ref r, rfl, r, dx, _, rfl, rn6.ins, rfl, r, dx, q, g, c, ds, kvs2, W0, [], items2, false, rfl, rn6, by omega, nd2, nmk, fun Hb1 ns1 pm1 so1 sb1 => ?_⟩
      have sz1 := sy6.trans sb1
      refine ⟨.ref it, rfl, it, items2.map (·.1), lookT items2, false, rfl, sumY sz1, lsn, nd2, nmk, fun Hb2 ys1 py1 sy1 sb2 => ?_⟩
      have sz2 := sz1.trans sb2
      have e1 : ys1 = ns1 := sorted_one sy1 so1 (py1.trans pm1.symm)
      subst e1
      refine ⟨rfl, false, by rw [decide_eq_true rfl]; rfl, iteF ?_⟩
      have rn8' := rnz.same sz2
      refine ⟨.ref r, rfl, r, dx, _, rfl, rn8'.ins, rfl, r, dx, q, g, c, ds, kvs2, W0, [], items2, true, rfl, rn8', by omega, nd2, nmk, fun Hb3 ns2 pm2 so2 sb3 => ?_⟩
      have sz3 := sz2.trans sb3
      refine ⟨.ref it, rfl, it, items2.map (·.1), lookT items2, true, rfl, sumY sz3, lsn, nd2, nmk, fun Hb4 ys2 py2 sy2 sb4 => ?_⟩
      have sz4 := sz3.trans sb4
      have e2 : ys2 = ns2 := sorted_one sy2 so2 (py2.trans pm2.symm)
      subst e2
      refine ⟨rfl, false, by rw [decide_eq_true rfl]; rfl, iteF ?_⟩
      have s8 := hid_same (S := [D, A, it]) sz4
      exact ⟨_, kvs2, kvl2, items2, _, _, _, _, _, _, _, _, _, rfl, dy.same sz4, by omega, rny.same s8, sz4 _ _ ity, cly.mono fun t c e => by
        rw [hid_at ((liv_of (dy.same sz4) (sz4 _ _ ity)).not (sz4 _ _ e) nofun nofun)]
        exact sz4 _ _ e, iok2⟩
    · rintro σ H2 _
      exact k _
end
set_option maxHeartbeats 0
theorem all_mk {l : PySem.W.OpenLaw} {w : World} {K : PySem.W.Frag} {h : Heap} {mg : Str → Option Value} {fa : Addr} {f0 : Addr} {od0 an0 : Option Addr} {sl0 : Array (Option Value)} {oc0 kV0 dc0 pm0 cd0 ct0 : Value}
    {f1 : Addr} {od1 an1 : Option Addr} {sl1 : Array (Option Value)} {oc1 kV1 dc1 pm1 cd1 ct1 : Value}
    {f2 : Addr} {od2 an2 : Option Addr} {sl2 : Array (Option Value)} {oc2 kV2 dc2 pm2 cd2 ct2 : Value}
    {f3 : Addr} {od3 an3 : Option Addr} {sl3 : Array (Option Value)} {oc3 kV3 dc3 pm3 cd3 ct3 : Value}
    {f4 : Addr} {od4 an4 : Option Addr} {sl4 : Array (Option Value)} {oc4 kV4 dc4 pm4 cd4 ct4 : Value}
    {f5 : Addr} {od5 an5 : Option Addr} {sl5 : Array (Option Value)} {oc5 kV5 dc5 pm5 cd5 ct5 : Value}
    {f6 : Addr} {od6 an6 : Option Addr} {sl6 : Array (Option Value)} {oc6 kV6 dc6 pm6 cd6 ct6 : Value}
    {f7 : Addr} {od7 an7 : Option Addr} {sl7 : Array (Option Value)} {oc7 kV7 dc7 pm7 cd7 ct7 : Value}
    {f8 : Addr} {od8 an8 : Option Addr} {sl8 : Array (Option Value)} {oc8 kV8 dc8 pm8 cd8 ct8 : Value}
    {f9 : Addr} {od9 an9 : Option Addr} {sl9 : Array (Option Value)} {oc9 kV9 dc9 pm9 cd9 ct9 : Value}
    {f10 : Addr} {od10 an10 : Option Addr} {sl10 : Array (Option Value)} {oc10 kV10 dc10 pm10 cd10 ct10 : Value}
    {f11 : Addr} {od11 an11 : Option Addr} {sl11 : Array (Option Value)} {oc11 kV11 dc11 pm11 cd11 ct11 : Value}
    {f12 : Addr} {od12 an12 : Option Addr} {sl12 : Array (Option Value)} {oc12 kV12 dc12 pm12 cd12 ct12 : Value}
    {f13 : Addr} {od13 an13 : Option Addr} {sl13 : Array (Option Value)} {oc13 kV13 dc13 pm13 cd13 ct13 : Value}
    {E13_0 : Addr} {Ed13_0 : Option Addr} {En13_0 : Nat} {Es13_0 : Array (Option Value)}
    {T13 : Addr} {Tc13 : Value} {Td13 : Option Addr} {Tn13 : Nat} {Ts13 : Array (Option Value)}
    {f14 : Addr} {od14 an14 : Option Addr} {sl14 : Array (Option Value)} {oc14 kV14 dc14 pm14 cd14 ct14 : Value}
    {f15 : Addr} {od15 an15 : Option Addr} {sl15 : Array (Option Value)} {oc15 kV15 dc15 pm15 cd15 ct15 : Value}
    {f16 : Addr} {od16 an16 : Option Addr} {sl16 : Array (Option Value)} {oc16 kV16 dc16 pm16 cd16 ct16 : Value}
    {f17 : Addr} {od17 an17 : Option Addr} {sl17 : Array (Option Value)} {oc17 kV17 dc17 pm17 cd17 ct17 : Value}
    {f18 : Addr} {od18 an18 : Option Addr} {sl18 : Array (Option Value)} {oc18 kV18 dc18 pm18 cd18 ct18 : Value}
    {f19 : Addr} {od19 an19 : Option Addr} {sl19 : Array (Option Value)} {oc19 kV19 dc19 pm19 cd19 ct19 : Value}
    {f20 : Addr} {od20 an20 : Option Addr} {sl20 : Array (Option Value)} {oc20 kV20 dc20 pm20 cd20 ct20 : Value}
    {f21 : Addr} {od21 an21 : Option Addr} {sl21 : Array (Option Value)} {oc21 kV21 dc21 pm21 cd21 ct21 : Value}
    {f22 : Addr} {od22 an22 : Option Addr} {sl22 : Array (Option Value)} {oc22 kV22 dc22 pm22 cd22 ct22 : Value}
    {f23 : Addr} {od23 an23 : Option Addr} {sl23 : Array (Option Value)} {oc23 kV23 dc23 pm23 cd23 ct23 : Value}
    {f24 : Addr} {od24 an24 : Option Addr} {sl24 : Array (Option Value)} {oc24 kV24 dc24 pm24 cd24 ct24 : Value}
    {f25 : Addr} {od25 an25 : Option Addr} {sl25 : Array (Option Value)} {oc25 kV25 dc25 pm25 cd25 ct25 : Value}
    {f26 : Addr} {od26 an26 : Option Addr} {sl26 : Array (Option Value)} {oc26 kV26 dc26 pm26 cd26 ct26 : Value}
    {f27 : Addr} {od27 an27 : Option Addr} {sl27 : Array (Option Value)} {oc27 kV27 dc27 pm27 cd27 ct27 : Value}
    {f28 : Addr} {od28 an28 : Option Addr} {sl28 : Array (Option Value)} {oc28 kV28 dc28 pm28 cd28 ct28 : Value}
    {f29 : Addr} {od29 an29 : Option Addr} {sl29 : Array (Option Value)} {oc29 kV29 dc29 pm29 cd29 ct29 : Value}
    {f30 : Addr} {od30 an30 : Option Addr} {sl30 : Array (Option Value)} {oc30 kV30 dc30 pm30 cd30 ct30 : Value}
    {f31 : Addr} {od31 an31 : Option Addr} {sl31 : Array (Option Value)} {oc31 kV31 dc31 pm31 cd31 ct31 : Value}
    {f32 : Addr} {od32 an32 : Option Addr} {sl32 : Array (Option Value)} {oc32 kV32 dc32 pm32 cd32 ct32 : Value}
    {f33 : Addr} {od33 an33 : Option Addr} {sl33 : Array (Option Value)} {oc33 kV33 dc33 pm33 cd33 ct33 : Value}
    {f34 : Addr} {od34 an34 : Option Addr} {sl34 : Array (Option Value)} {oc34 kV34 dc34 pm34 cd34 ct34 : Value}
    {f35 : Addr} {od35 an35 : Option Addr} {sl35 : Array (Option Value)} {oc35 kV35 dc35 pm35 cd35 ct35 : Value}
    {f36 : Addr} {od36 an36 : Option Addr} {sl36 : Array (Option Value)} {oc36 kV36 dc36 pm36 cd36 ct36 : Value}
    {f37 : Addr} {od37 an37 : Option Addr} {sl37 : Array (Option Value)} {oc37 kV37 dc37 pm37 cd37 ct37 : Value}
    {f38 : Addr} {od38 an38 : Option Addr} {sl38 : Array (Option Value)} {oc38 kV38 dc38 pm38 cd38 ct38 : Value}
    {f39 : Addr} {od39 an39 : Option Addr} {sl39 : Array (Option Value)} {oc39 kV39 dc39 pm39 cd39 ct39 : Value}
    {f40 : Addr} {od40 an40 : Option Addr} {sl40 : Array (Option Value)} {oc40 kV40 dc40 pm40 cd40 ct40 : Value}
    {f41 : Addr} {od41 an41 : Option Addr} {sl41 : Array (Option Value)} {oc41 kV41 dc41 pm41 cd41 ct41 : Value}
    {f42 : Addr} {od42 an42 : Option Addr} {sl42 : Array (Option Value)} {oc42 kV42 dc42 pm42 cd42 ct42 : Value}
    {f43 : Addr} {od43 an43 : Option Addr} {sl43 : Array (Option Value)} {oc43 kV43 dc43 pm43 cd43 ct43 : Value}
    {f44 : Addr} {od44 an44 : Option Addr} {sl44 : Array (Option Value)} {oc44 kV44 dc44 pm44 cd44 ct44 : Value}
    {f45 : Addr} {od45 an45 : Option Addr} {sl45 : Array (Option Value)} {oc45 kV45 dc45 pm45 cd45 ct45 : Value}
    {f46 : Addr} {od46 an46 : Option Addr} {sl46 : Array (Option Value)} {oc46 kV46 dc46 pm46 cd46 ct46 : Value}
    {f47 : Addr} {od47 an47 : Option Addr} {sl47 : Array (Option Value)} {oc47 kV47 dc47 pm47 cd47 ct47 : Value}
    {f48 : Addr} {od48 an48 : Option Addr} {sl48 : Array (Option Value)} {oc48 kV48 dc48 pm48 cd48 ct48 : Value}
    {f49 : Addr} {od49 an49 : Option Addr} {sl49 : Array (Option Value)} {oc49 kV49 dc49 pm49 cd49 ct49 : Value}
    {f50 : Addr} {od50 an50 : Option Addr} {sl50 : Array (Option Value)} {oc50 kV50 dc50 pm50 cd50 ct50 : Value}
    {f51 : Addr} {od51 an51 : Option Addr} {sl51 : Array (Option Value)} {oc51 kV51 dc51 pm51 cd51 ct51 : Value}
    {f52 : Addr} {od52 an52 : Option Addr} {sl52 : Array (Option Value)} {oc52 kV52 dc52 pm52 cd52 ct52 : Value}
    {f53 : Addr} {od53 an53 : Option Addr} {sl53 : Array (Option Value)} {oc53 kV53 dc53 pm53 cd53 ct53 : Value}
    {f54 : Addr} {od54 an54 : Option Addr} {sl54 : Array (Option Value)} {oc54 kV54 dc54 pm54 cd54 ct54 : Value}
    {f55 : Addr} {od55 an55 : Option Addr} {sl55 : Array (Option Value)} {oc55 kV55 dc55 pm55 cd55 ct55 : Value}
    {f56 : Addr} {od56 an56 : Option Addr} {sl56 : Array (Option Value)} {oc56 kV56 dc56 pm56 cd56 ct56 : Value}
    {f57 : Addr} {od57 an57 : Option Addr} {sl57 : Array (Option Value)} {oc57 kV57 dc57 pm57 cd57 ct57 : Value}
    {f58 : Addr} {od58 an58 : Option Addr} {sl58 : Array (Option Value)} {oc58 kV58 dc58 pm58 cd58 ct58 : Value}
    {f59 : Addr} {od59 an59 : Option Addr} {sl59 : Array (Option Value)} {oc59 kV59 dc59 pm59 cd59 ct59 : Value}
    {f60 : Addr} {od60 an60 : Option Addr} {sl60 : Array (Option Value)} {oc60 kV60 dc60 pm60 cd60 ct60 : Value}
    {f61 : Addr} {od61 an61 : Option Addr} {sl61 : Array (Option Value)} {oc61 kV61 dc61 pm61 cd61 ct61 : Value}
    {f62 : Addr} {od62 an62 : Option Addr} {sl62 : Array (Option Value)} {oc62  dc62 pm62 cd62 ct62 : Value}
    {tk62_0 : Tok}
    {T62 : Addr} {Tc62 : Value} {Td62 : Option Addr} {Tn62 : Nat} {Ts62 : Array (Option Value)}
    {KD62 : Addr}
    {kt62_line : Tok}
    {kt62_indent : Tok}
    {f63 : Addr} {od63 an63 : Option Addr} {sl63 : Array (Option Value)} {oc63 kV63 dc63 pm63 cd63 ct63 : Value}
    {tk63_1 : Tok}
    {T63 : Addr} {Tc63 : Value} {Td63 : Option Addr} {Tn63 : Nat} {Ts63 : Array (Option Value)}
    {f64 : Addr} {od64 an64 : Option Addr} {sl64 : Array (Option Value)} {oc64 kV64 dc64 pm64 cd64 ct64 : Value}
    {E64_0 : Addr} {Ed64_0 : Option Addr} {En64_0 : Nat} {Es64_0 : Array (Option Value)}
    {T64 : Addr} {Tc64 : Value} {Td64 : Option Addr} {Tn64 : Nat} {Ts64 : Array (Option Value)}
    {f65 : Addr} {od65 an65 : Option Addr} {sl65 : Array (Option Value)} {oc65 kV65 dc65 pm65 cd65 ct65 : Value}
    {f66 : Addr} {od66 an66 : Option Addr} {sl66 : Array (Option Value)} {oc66 kV66 dc66 pm66 cd66 ct66 : Value}
    {f67 : Addr} {od67 an67 : Option Addr} {sl67 : Array (Option Value)} {oc67 kV67 dc67 pm67 cd67 ct67 : Value}
    {f68 : Addr} {od68 an68 : Option Addr} {sl68 : Array (Option Value)} {oc68  dc68 pm68 cd68 ct68 : Value}
    {KD68 : Addr}
    {f69 : Addr} {od69 an69 : Option Addr} {sl69 : Array (Option Value)} {oc69 kV69 dc69 pm69 cd69 ct69 : Value}
    {f70 : Addr} {od70 an70 : Option Addr} {sl70 : Array (Option Value)} {oc70 kV70 dc70 pm70 cd70 ct70 : Value}
    {f71 : Addr} {od71 an71 : Option Addr} {sl71 : Array (Option Value)} {oc71 kV71 dc71 pm71 cd71 ct71 : Value}
    {f72 : Addr} {od72 an72 : Option Addr} {sl72 : Array (Option Value)} {oc72 kV72 dc72 pm72 cd72 ct72 : Value}
    {f73 : Addr} {od73 an73 : Option Addr} {sl73 : Array (Option Value)} {oc73 kV73 dc73 pm73 cd73 ct73 : Value}
    {T73 : Addr} {Tc73 : Value} {Td73 : Option Addr} {Tn73 : Nat} {Ts73 : Array (Option Value)}
    {C_Example : Addr}
    {C_Test : Addr}
    {C_Runner : Addr}
    {t_BLANKS : Tok}
    {t_DOTS : Tok}
    {t_ELLIPSIS : Tok}
    {t_ERROR : Tok}
    {t_FAILED : Tok}
    {t_FAILURE : Tok}
    {t_FAIL_FAST : Tok}
    {t_FIRST_FAILURE : Tok}
    {a_FLAGS : Addr} {ad_FLAGS : Option Addr} {an_FLAGS : Nat} {as_FLAGS : Array (Option Value)} {t_FLAGS0 t_FLAGS1 t_FLAGS2 t_FLAGS3 t_FLAGS4 t_FLAGS5 t_FLAGS6 t_FLAGS7 : Tok}
    {t_MARK_directives : Tok}
    {t_MARK_stages : Tok}
    {t_NORMALIZE : Tok}
    {t_NO_BLANKLINE : Tok}
    {t_ONE_IS_NOT_TRUE : Tok}
    {t_PASSED_OVER : Tok}
    {a_SHAPES : Addr} {an_SHAPES : Nat} {h_SHAPES0 h_SHAPES1 h_SHAPES2 h_SHAPES3 h_SHAPES4 h_SHAPES5 : Int} {t_SHAPES0 t_SHAPES1 t_SHAPES2 t_SHAPES3 t_SHAPES4 t_SHAPES5 : Tok} {A_SHAPES0 A_SHAPES1 A_SHAPES2 A_SHAPES3 A_SHAPES4 A_SHAPES5 : Addr}
    {pd_SHAPES0 : Option Addr} {pn_SHAPES0 : Nat} {ps_SHAPES0 : Array (Option Value)} {pt_SHAPES0_0 : Tok}
    {pd_SHAPES1 : Option Addr} {pn_SHAPES1 : Nat} {ps_SHAPES1 : Array (Option Value)} {pt_SHAPES1_0 : Tok}
    {pd_SHAPES2 : Option Addr} {pn_SHAPES2 : Nat} {ps_SHAPES2 : Array (Option Value)} {pt_SHAPES2_0 pt_SHAPES2_1 : Tok}
    {pd_SHAPES3 : Option Addr} {pn_SHAPES3 : Nat} {ps_SHAPES3 : Array (Option Value)} {pt_SHAPES3_0 pt_SHAPES3_1 : Tok}
    {pd_SHAPES4 : Option Addr} {pn_SHAPES4 : Nat} {ps_SHAPES4 : Array (Option Value)} {pt_SHAPES4_0 : Tok}
    {pd_SHAPES5 : Option Addr} {pn_SHAPES5 : Nat} {ps_SHAPES5 : Array (Option Value)} {pt_SHAPES5_0 pt_SHAPES5_1 : Tok}
    {t_SKIP : Tok}
    {t_SKIPPED : Tok}
    {t_STARS : Tok}
    {t_SUCCESS : Tok}
    {t_TRIED : Tok}
    {a_TRUTHS : Addr} {an_TRUTHS : Nat} {h_TRUTHS0 h_TRUTHS1 : Int} {t_TRUTHS0 u_TRUTHS0 t_TRUTHS1 u_TRUTHS1 : Tok} (X : K.In h) (G : h.Ns mainGlobals mg) (hfa : mg "law" = some (.ref fa))
    (a0 : PySem.W.nsIn K mainGlobals "held" = some (some (.ref f0))) (l0 : K.lookup f0 = some ⟨oc0, od0, .func (PySem.W.fnOf "held" "held" (defArgs s_held) (defBody s_held) (defScope s_held) .none kV0 dc0 pm0 an0 cd0 ct0), sl0⟩) (e0 : PySem.W.codeIn K cd0 "held" = true) (k0 : PySem.W.keepIn K (.ref f0) = true)
    (a1 : PySem.W.nsIn K mainGlobals "is_flag" = some (some (.ref f1))) (l1 : K.lookup f1 = some ⟨oc1, od1, .func (PySem.W.fnOf "is_flag" "is_flag" (defArgs s_is_flag) (defBody s_is_flag) (defScope s_is_flag) .none kV1 dc1 pm1 an1 cd1 ct1), sl1⟩) (e1 : PySem.W.codeIn K cd1 "is_flag" = true) (k1 : PySem.W.keepIn K (.ref f1) = true)
    (a2 : PySem.W.nsIn K mainGlobals "require_flags" = some (some (.ref f2))) (l2 : K.lookup f2 = some ⟨oc2, od2, .func (PySem.W.fnOf "require_flags" "require_flags" (defArgs s_require_flags) (defBody s_require_flags) (defScope s_require_flags) .none kV2 dc2 pm2 an2 cd2 ct2), sl2⟩) (e2 : PySem.W.codeIn K cd2 "require_flags" = true) (k2 : PySem.W.keepIn K (.ref f2) = true)
    (a3 : PySem.W.nsIn K mainGlobals "in_force" = some (some (.ref f3))) (l3 : K.lookup f3 = some ⟨oc3, od3, .func (PySem.W.fnOf "in_force" "in_force" (defArgs s_in_force) (defBody s_in_force) (defScope s_in_force) .none kV3 dc3 pm3 an3 cd3 ct3), sl3⟩) (e3 : PySem.W.codeIn K cd3 "in_force" = true) (k3 : PySem.W.keepIn K (.ref f3) = true)
    (a4 : PySem.W.nsIn K mainGlobals "is_blank" = some (some (.ref f4))) (l4 : K.lookup f4 = some ⟨oc4, od4, .func (PySem.W.fnOf "is_blank" "is_blank" (defArgs s_is_blank) (defBody s_is_blank) (defScope s_is_blank) .none kV4 dc4 pm4 an4 cd4 ct4), sl4⟩) (e4 : PySem.W.codeIn K cd4 "is_blank" = true) (k4 : PySem.W.keepIn K (.ref f4) = true)
    (a5 : PySem.W.nsIn K mainGlobals "is_mark" = some (some (.ref f5))) (l5 : K.lookup f5 = some ⟨oc5, od5, .func (PySem.W.fnOf "is_mark" "is_mark" (defArgs s_is_mark) (defBody s_is_mark) (defScope s_is_mark) .none kV5 dc5 pm5 an5 cd5 ct5), sl5⟩) (e5 : PySem.W.codeIn K cd5 "is_mark" = true) (k5 : PySem.W.keepIn K (.ref f5) = true)
    (a6 : PySem.W.nsIn K mainGlobals "marks_emptied" = some (some (.ref f6))) (l6 : K.lookup f6 = some ⟨oc6, od6, .func (PySem.W.fnOf "marks_emptied" "marks_emptied" (defArgs s_marks_emptied) (defBody s_marks_emptied) (defScope s_marks_emptied) .none kV6 dc6 pm6 an6 cd6 ct6), sl6⟩) (e6 : PySem.W.codeIn K cd6 "marks_emptied" = true) (k6 : PySem.W.keepIn K (.ref f6) = true)
    (a7 : PySem.W.nsIn K mainGlobals "blanks_emptied" = some (some (.ref f7))) (l7 : K.lookup f7 = some ⟨oc7, od7, .func (PySem.W.fnOf "blanks_emptied" "blanks_emptied" (defArgs s_blanks_emptied) (defBody s_blanks_emptied) (defScope s_blanks_emptied) .none kV7 dc7 pm7 an7 cd7 ct7), sl7⟩) (e7 : PySem.W.codeIn K cd7 "blanks_emptied" = true) (k7 : PySem.W.keepIn K (.ref f7) = true)
    (a8 : PySem.W.nsIn K mainGlobals "has_pieces" = some (some (.ref f8))) (l8 : K.lookup f8 = some ⟨oc8, od8, .func (PySem.W.fnOf "has_pieces" "has_pieces" (defArgs s_has_pieces) (defBody s_has_pieces) (defScope s_has_pieces) .none kV8 dc8 pm8 an8 cd8 ct8), sl8⟩) (e8 : PySem.W.codeIn K cd8 "has_pieces" = true) (k8 : PySem.W.keepIn K (.ref f8) = true)
    (a9 : PySem.W.nsIn K mainGlobals "lets_by" = some (some (.ref f9))) (l9 : K.lookup f9 = some ⟨oc9, od9, .func (PySem.W.fnOf "lets_by" "lets_by" (defArgs s_lets_by) (defBody s_lets_by) (defScope s_lets_by) .none kV9 dc9 pm9 an9 cd9 ct9), sl9⟩) (e9 : PySem.W.codeIn K cd9 "lets_by" = true) (k9 : PySem.W.keepIn K (.ref f9) = true)
    (a10 : PySem.W.nsIn K mainGlobals "indented" = some (some (.ref f10))) (l10 : K.lookup f10 = some ⟨oc10, od10, .func (PySem.W.fnOf "indented" "indented" (defArgs s_indented) (defBody s_indented) (defScope s_indented) .none kV10 dc10 pm10 an10 cd10 ct10), sl10⟩) (e10 : PySem.W.codeIn K cd10 "indented" = true) (k10 : PySem.W.keepIn K (.ref f10) = true)
    (a11 : PySem.W.nsIn K mainGlobals "told" = some (some (.ref f11))) (l11 : K.lookup f11 = some ⟨oc11, od11, .func (PySem.W.fnOf "told" "told" (defArgs s_told) (defBody s_told) (defScope s_told) .none kV11 dc11 pm11 an11 cd11 ct11), sl11⟩) (e11 : PySem.W.codeIn K cd11 "told" = true) (k11 : PySem.W.keepIn K (.ref f11) = true)
    (a12 : PySem.W.nsIn K mainGlobals "blanks_marked" = some (some (.ref f12))) (l12 : K.lookup f12 = some ⟨oc12, od12, .func (PySem.W.fnOf "blanks_marked" "blanks_marked" (defArgs s_blanks_marked) (defBody s_blanks_marked) (defScope s_blanks_marked) .none kV12 dc12 pm12 an12 cd12 ct12), sl12⟩) (e12 : PySem.W.codeIn K cd12 "blanks_marked" = true) (k12 : PySem.W.keepIn K (.ref f12) = true)
    (a13 : PySem.W.nsIn K mainGlobals "difference_text" = some (some (.ref f13))) (l13 : K.lookup f13 = some ⟨oc13, od13, .func (PySem.W.fnOf "difference_text" "difference_text" (defArgs s_difference_text) (defBody s_difference_text) (defScope s_difference_text) (.ref T13) kV13 dc13 pm13 an13 cd13 ct13), sl13⟩) (e13 : PySem.W.codeIn K cd13 "difference_text" = true) (k13 : PySem.W.keepIn K (.ref f13) = true)
    (t13 : K.lookup T13 = some ⟨Tc13, Td13, .seq #[.ref E13_0] Tn13, Ts13⟩) (u13_0 : K.lookup E13_0 = some ⟨.type "tuple", Ed13_0, .seq #[] En13_0, Es13_0⟩)
    (a14 : PySem.W.nsIn K mainGlobals "kept_lines" = some (some (.ref f14))) (l14 : K.lookup f14 = some ⟨oc14, od14, .func (PySem.W.fnOf "kept_lines" "kept_lines" (defArgs s_kept_lines) (defBody s_kept_lines) (defScope s_kept_lines) .none kV14 dc14 pm14 an14 cd14 ct14), sl14⟩) (e14 : PySem.W.codeIn K cd14 "kept_lines" = true) (k14 : PySem.W.keepIn K (.ref f14) = true)
    (a15 : PySem.W.nsIn K mainGlobals "lines_of" = some (some (.ref f15))) (l15 : K.lookup f15 = some ⟨oc15, od15, .func (PySem.W.fnOf "lines_of" "lines_of" (defArgs s_lines_of) (defBody s_lines_of) (defScope s_lines_of) .none kV15 dc15 pm15 an15 cd15 ct15), sl15⟩) (e15 : PySem.W.codeIn K cd15 "lines_of" = true) (k15 : PySem.W.keepIn K (.ref f15) = true)
    (a16 : PySem.W.nsIn K mainGlobals "fed" = some (some (.ref f16))) (l16 : K.lookup f16 = some ⟨oc16, od16, .func (PySem.W.fnOf "fed" "fed" (defArgs s_fed) (defBody s_fed) (defScope s_fed) .none kV16 dc16 pm16 an16 cd16 ct16), sl16⟩) (e16 : PySem.W.codeIn K cd16 "fed" = true) (k16 : PySem.W.keepIn K (.ref f16) = true)
    (a17 : PySem.W.nsIn K mainGlobals "is_text" = some (some (.ref f17))) (l17 : K.lookup f17 = some ⟨oc17, od17, .func (PySem.W.fnOf "is_text" "is_text" (defArgs s_is_text) (defBody s_is_text) (defScope s_is_text) .none kV17 dc17 pm17 an17 cd17 ct17), sl17⟩) (e17 : PySem.W.codeIn K cd17 "is_text" = true) (k17 : PySem.W.keepIn K (.ref f17) = true)
    (a18 : PySem.W.nsIn K mainGlobals "held_names" = some (some (.ref f18))) (l18 : K.lookup f18 = some ⟨oc18, od18, .func (PySem.W.fnOf "held_names" "held_names" (defArgs s_held_names) (defBody s_held_names) (defScope s_held_names) .none kV18 dc18 pm18 an18 cd18 ct18), sl18⟩) (e18 : PySem.W.codeIn K cd18 "held_names" = true) (k18 : PySem.W.keepIn K (.ref f18) = true)
    (a19 : PySem.W.nsIn K mainGlobals "fits" = some (some (.ref f19))) (l19 : K.lookup f19 = some ⟨oc19, od19, .func (PySem.W.fnOf "fits" "fits" (defArgs s_fits) (defBody s_fits) (defScope s_fits) .none kV19 dc19 pm19 an19 cd19 ct19), sl19⟩) (e19 : PySem.W.codeIn K cd19 "fits" = true) (k19 : PySem.W.keepIn K (.ref f19) = true)
    (a20 : PySem.W.nsIn K mainGlobals "is_deed" = some (some (.ref f20))) (l20 : K.lookup f20 = some ⟨oc20, od20, .func (PySem.W.fnOf "is_deed" "is_deed" (defArgs s_is_deed) (defBody s_is_deed) (defScope s_is_deed) .none kV20 dc20 pm20 an20 cd20 ct20), sl20⟩) (e20 : PySem.W.codeIn K cd20 "is_deed" = true) (k20 : PySem.W.keepIn K (.ref f20) = true)
    (a21 : PySem.W.nsIn K mainGlobals "is_act" = some (some (.ref f21))) (l21 : K.lookup f21 = some ⟨oc21, od21, .func (PySem.W.fnOf "is_act" "is_act" (defArgs s_is_act) (defBody s_is_act) (defScope s_is_act) .none kV21 dc21 pm21 an21 cd21 ct21), sl21⟩) (e21 : PySem.W.codeIn K cd21 "is_act" = true) (k21 : PySem.W.keepIn K (.ref f21) = true)
    (a22 : PySem.W.nsIn K mainGlobals "is_play" = some (some (.ref f22))) (l22 : K.lookup f22 = some ⟨oc22, od22, .func (PySem.W.fnOf "is_play" "is_play" (defArgs s_is_play) (defBody s_is_play) (defScope s_is_play) .none kV22 dc22 pm22 an22 cd22 ct22), sl22⟩) (e22 : PySem.W.codeIn K cd22 "is_play" = true) (k22 : PySem.W.keepIn K (.ref f22) = true)
    (a23 : PySem.W.nsIn K mainGlobals "require_play" = some (some (.ref f23))) (l23 : K.lookup f23 = some ⟨oc23, od23, .func (PySem.W.fnOf "require_play" "require_play" (defArgs s_require_play) (defBody s_require_play) (defScope s_require_play) .none kV23 dc23 pm23 an23 cd23 ct23), sl23⟩) (e23 : PySem.W.codeIn K cd23 "require_play" = true) (k23 : PySem.W.keepIn K (.ref f23) = true)
    (a24 : PySem.W.nsIn K mainGlobals "played" = some (some (.ref f24))) (l24 : K.lookup f24 = some ⟨oc24, od24, .func (PySem.W.fnOf "played" "played" (defArgs s_played) (defBody s_played) (defScope s_played) .none kV24 dc24 pm24 an24 cd24 ct24), sl24⟩) (e24 : PySem.W.codeIn K cd24 "played" = true) (k24 : PySem.W.keepIn K (.ref f24) = true)
    (a25 : PySem.W.nsIn K mainGlobals "done" = some (some (.ref f25))) (l25 : K.lookup f25 = some ⟨oc25, od25, .func (PySem.W.fnOf "done" "done" (defArgs s_done) (defBody s_done) (defScope s_done) .none kV25 dc25 pm25 an25 cd25 ct25), sl25⟩) (e25 : PySem.W.codeIn K cd25 "done" = true) (k25 : PySem.W.keepIn K (.ref f25) = true)
    (a26 : PySem.W.nsIn K mainGlobals "ended" = some (some (.ref f26))) (l26 : K.lookup f26 = some ⟨oc26, od26, .func (PySem.W.fnOf "ended" "ended" (defArgs s_ended) (defBody s_ended) (defScope s_ended) .none kV26 dc26 pm26 an26 cd26 ct26), sl26⟩) (e26 : PySem.W.codeIn K cd26 "ended" = true) (k26 : PySem.W.keepIn K (.ref f26) = true)
    (a27 : PySem.W.nsIn K mainGlobals "outcome_of" = some (some (.ref f27))) (l27 : K.lookup f27 = some ⟨oc27, od27, .func (PySem.W.fnOf "outcome_of" "outcome_of" (defArgs s_outcome_of) (defBody s_outcome_of) (defScope s_outcome_of) .none kV27 dc27 pm27 an27 cd27 ct27), sl27⟩) (e27 : PySem.W.codeIn K cd27 "outcome_of" = true) (k27 : PySem.W.keepIn K (.ref f27) = true)
    (a28 : PySem.W.nsIn K mainGlobals "word_of" = some (some (.ref f28))) (l28 : K.lookup f28 = some ⟨oc28, od28, .func (PySem.W.fnOf "word_of" "word_of" (defArgs s_word_of) (defBody s_word_of) (defScope s_word_of) .none kV28 dc28 pm28 an28 cd28 ct28), sl28⟩) (e28 : PySem.W.codeIn K cd28 "word_of" = true) (k28 : PySem.W.keepIn K (.ref f28) = true)
    (a29 : PySem.W.nsIn K mainGlobals "has_failed" = some (some (.ref f29))) (l29 : K.lookup f29 = some ⟨oc29, od29, .func (PySem.W.fnOf "has_failed" "has_failed" (defArgs s_has_failed) (defBody s_has_failed) (defScope s_has_failed) .none kV29 dc29 pm29 an29 cd29 ct29), sl29⟩) (e29 : PySem.W.codeIn K cd29 "has_failed" = true) (k29 : PySem.W.keepIn K (.ref f29) = true)
    (a30 : PySem.W.nsIn K mainGlobals "got_in_all" = some (some (.ref f30))) (l30 : K.lookup f30 = some ⟨oc30, od30, .func (PySem.W.fnOf "got_in_all" "got_in_all" (defArgs s_got_in_all) (defBody s_got_in_all) (defScope s_got_in_all) .none kV30 dc30 pm30 an30 cd30 ct30), sl30⟩) (e30 : PySem.W.codeIn K cd30 "got_in_all" = true) (k30 : PySem.W.keepIn K (.ref f30) = true)
    (a31 : PySem.W.nsIn K mainGlobals "report_of" = some (some (.ref f31))) (l31 : K.lookup f31 = some ⟨oc31, od31, .func (PySem.W.fnOf "report_of" "report_of" (defArgs s_report_of) (defBody s_report_of) (defScope s_report_of) .none kV31 dc31 pm31 an31 cd31 ct31), sl31⟩) (e31 : PySem.W.codeIn K cd31 "report_of" = true) (k31 : PySem.W.keepIn K (.ref f31) = true)
    (a32 : PySem.W.nsIn K mainGlobals "failure_report" = some (some (.ref f32))) (l32 : K.lookup f32 = some ⟨oc32, od32, .func (PySem.W.fnOf "failure_report" "failure_report" (defArgs s_failure_report) (defBody s_failure_report) (defScope s_failure_report) .none kV32 dc32 pm32 an32 cd32 ct32), sl32⟩) (e32 : PySem.W.codeIn K cd32 "failure_report" = true) (k32 : PySem.W.keepIn K (.ref f32) = true)
    (a33 : PySem.W.nsIn K mainGlobals "place_of" = some (some (.ref f33))) (l33 : K.lookup f33 = some ⟨oc33, od33, .func (PySem.W.fnOf "place_of" "place_of" (defArgs s_place_of) (defBody s_place_of) (defScope s_place_of) .none kV33 dc33 pm33 an33 cd33 ct33), sl33⟩) (e33 : PySem.W.codeIn K cd33 "place_of" = true) (k33 : PySem.W.keepIn K (.ref f33) = true)
    (a34 : PySem.W.nsIn K mainGlobals "counts_of" = some (some (.ref f34))) (l34 : K.lookup f34 = some ⟨oc34, od34, .func (PySem.W.fnOf "counts_of" "counts_of" (defArgs s_counts_of) (defBody s_counts_of) (defScope s_counts_of) .none kV34 dc34 pm34 an34 cd34 ct34), sl34⟩) (e34 : PySem.W.codeIn K cd34 "counts_of" = true) (k34 : PySem.W.keepIn K (.ref f34) = true)
    (a35 : PySem.W.nsIn K mainGlobals "summed" = some (some (.ref f35))) (l35 : K.lookup f35 = some ⟨oc35, od35, .func (PySem.W.fnOf "summed" "summed" (defArgs s_summed) (defBody s_summed) (defScope s_summed) .none kV35 dc35 pm35 an35 cd35 ct35), sl35⟩) (e35 : PySem.W.codeIn K cd35 "summed" = true) (k35 : PySem.W.keepIn K (.ref f35) = true)
    (a36 : PySem.W.nsIn K mainGlobals "number_of" = some (some (.ref f36))) (l36 : K.lookup f36 = some ⟨oc36, od36, .func (PySem.W.fnOf "number_of" "number_of" (defArgs s_number_of) (defBody s_number_of) (defScope s_number_of) .none kV36 dc36 pm36 an36 cd36 ct36), sl36⟩) (e36 : PySem.W.codeIn K cd36 "number_of" = true) (k36 : PySem.W.keepIn K (.ref f36) = true)
    (a37 : PySem.W.nsIn K mainGlobals "summary_of" = some (some (.ref f37))) (l37 : K.lookup f37 = some ⟨oc37, od37, .func (PySem.W.fnOf "summary_of" "summary_of" (defArgs s_summary_of) (defBody s_summary_of) (defScope s_summary_of) .none kV37 dc37 pm37 an37 cd37 ct37), sl37⟩) (e37 : PySem.W.codeIn K cd37 "summary_of" = true) (k37 : PySem.W.keepIn K (.ref f37) = true)
    (a38 : PySem.W.nsIn K mainGlobals "untried_lines" = some (some (.ref f38))) (l38 : K.lookup f38 = some ⟨oc38, od38, .func (PySem.W.fnOf "untried_lines" "untried_lines" (defArgs s_untried_lines) (defBody s_untried_lines) (defScope s_untried_lines) .none kV38 dc38 pm38 an38 cd38 ct38), sl38⟩) (e38 : PySem.W.codeIn K cd38 "untried_lines" = true) (k38 : PySem.W.keepIn K (.ref f38) = true)
    (a39 : PySem.W.nsIn K mainGlobals "passed_lines" = some (some (.ref f39))) (l39 : K.lookup f39 = some ⟨oc39, od39, .func (PySem.W.fnOf "passed_lines" "passed_lines" (defArgs s_passed_lines) (defBody s_passed_lines) (defScope s_passed_lines) .none kV39 dc39 pm39 an39 cd39 ct39), sl39⟩) (e39 : PySem.W.codeIn K cd39 "passed_lines" = true) (k39 : PySem.W.keepIn K (.ref f39) = true)
    (a40 : PySem.W.nsIn K mainGlobals "passed_line" = some (some (.ref f40))) (l40 : K.lookup f40 = some ⟨oc40, od40, .func (PySem.W.fnOf "passed_line" "passed_line" (defArgs s_passed_line) (defBody s_passed_line) (defScope s_passed_line) .none kV40 dc40 pm40 an40 cd40 ct40), sl40⟩) (e40 : PySem.W.codeIn K cd40 "passed_line" = true) (k40 : PySem.W.keepIn K (.ref f40) = true)
    (a41 : PySem.W.nsIn K mainGlobals "failed_lines" = some (some (.ref f41))) (l41 : K.lookup f41 = some ⟨oc41, od41, .func (PySem.W.fnOf "failed_lines" "failed_lines" (defArgs s_failed_lines) (defBody s_failed_lines) (defScope s_failed_lines) .none kV41 dc41 pm41 an41 cd41 ct41), sl41⟩) (e41 : PySem.W.codeIn K cd41 "failed_lines" = true) (k41 : PySem.W.keepIn K (.ref f41) = true)
    (a42 : PySem.W.nsIn K mainGlobals "failed_line" = some (some (.ref f42))) (l42 : K.lookup f42 = some ⟨oc42, od42, .func (PySem.W.fnOf "failed_line" "failed_line" (defArgs s_failed_line) (defBody s_failed_line) (defScope s_failed_line) .none kV42 dc42 pm42 an42 cd42 ct42), sl42⟩) (e42 : PySem.W.codeIn K cd42 "failed_line" = true) (k42 : PySem.W.keepIn K (.ref f42) = true)
    (a43 : PySem.W.nsIn K mainGlobals "headed" = some (some (.ref f43))) (l43 : K.lookup f43 = some ⟨oc43, od43, .func (PySem.W.fnOf "headed" "headed" (defArgs s_headed) (defBody s_headed) (defScope s_headed) .none kV43 dc43 pm43 an43 cd43 ct43), sl43⟩) (e43 : PySem.W.codeIn K cd43 "headed" = true) (k43 : PySem.W.keepIn K (.ref f43) = true)
    (a44 : PySem.W.nsIn K mainGlobals "total_lines" = some (some (.ref f44))) (l44 : K.lookup f44 = some ⟨oc44, od44, .func (PySem.W.fnOf "total_lines" "total_lines" (defArgs s_total_lines) (defBody s_total_lines) (defScope s_total_lines) .none kV44 dc44 pm44 an44 cd44 ct44), sl44⟩) (e44 : PySem.W.codeIn K cd44 "total_lines" = true) (k44 : PySem.W.keepIn K (.ref f44) = true)
    (a45 : PySem.W.nsIn K mainGlobals "last_lines" = some (some (.ref f45))) (l45 : K.lookup f45 = some ⟨oc45, od45, .func (PySem.W.fnOf "last_lines" "last_lines" (defArgs s_last_lines) (defBody s_last_lines) (defScope s_last_lines) .none kV45 dc45 pm45 an45 cd45 ct45), sl45⟩) (e45 : PySem.W.codeIn K cd45 "last_lines" = true) (k45 : PySem.W.keepIn K (.ref f45) = true)
    (a46 : PySem.W.nsIn K mainGlobals "directive_of" = some (some (.ref f46))) (l46 : K.lookup f46 = some ⟨oc46, od46, .func (PySem.W.fnOf "directive_of" "directive_of" (defArgs s_directive_of) (defBody s_directive_of) (defScope s_directive_of) .none kV46 dc46 pm46 an46 cd46 ct46), sl46⟩) (e46 : PySem.W.codeIn K cd46 "directive_of" = true) (k46 : PySem.W.keepIn K (.ref f46) = true)
    (a47 : PySem.W.nsIn K mainGlobals "bare_of" = some (some (.ref f47))) (l47 : K.lookup f47 = some ⟨oc47, od47, .func (PySem.W.fnOf "bare_of" "bare_of" (defArgs s_bare_of) (defBody s_bare_of) (defScope s_bare_of) .none kV47 dc47 pm47 an47 cd47 ct47), sl47⟩) (e47 : PySem.W.codeIn K cd47 "bare_of" = true) (k47 : PySem.W.keepIn K (.ref f47) = true)
    (a48 : PySem.W.nsIn K mainGlobals "bare_line" = some (some (.ref f48))) (l48 : K.lookup f48 = some ⟨oc48, od48, .func (PySem.W.fnOf "bare_line" "bare_line" (defArgs s_bare_line) (defBody s_bare_line) (defScope s_bare_line) .none kV48 dc48 pm48 an48 cd48 ct48), sl48⟩) (e48 : PySem.W.codeIn K cd48 "bare_line" = true) (k48 : PySem.W.keepIn K (.ref f48) = true)
    (a49 : PySem.W.nsIn K mainGlobals "_law_draws" = some (some (.ref f49))) (l49 : K.lookup f49 = some ⟨oc49, od49, .func (PySem.W.fnOf "_law_draws" "_law_draws" (defArgs s_law_draws) (defBody s_law_draws) (defScope s_law_draws) .none kV49 dc49 pm49 an49 cd49 ct49), sl49⟩) (e49 : PySem.W.codeIn K cd49 "_law_draws" = true) (k49 : PySem.W.keepIn K (.ref f49) = true)
    (a50 : PySem.W.nsIn K mainGlobals "_law_mixed" = some (some (.ref f50))) (l50 : K.lookup f50 = some ⟨oc50, od50, .func (PySem.W.fnOf "_law_mixed" "_law_mixed" (defArgs s_law_mixed) (defBody s_law_mixed) (defScope s_law_mixed) .none kV50 dc50 pm50 an50 cd50 ct50), sl50⟩) (e50 : PySem.W.codeIn K cd50 "_law_mixed" = true) (k50 : PySem.W.keepIn K (.ref f50) = true)
    (a51 : PySem.W.nsIn K mainGlobals "_law_take" = some (some (.ref f51))) (l51 : K.lookup f51 = some ⟨oc51, od51, .func (PySem.W.fnOf "_law_take" "_law_take" (defArgs s_law_take) (defBody s_law_take) (defScope s_law_take) .none kV51 dc51 pm51 an51 cd51 ct51), sl51⟩) (e51 : PySem.W.codeIn K cd51 "_law_take" = true) (k51 : PySem.W.keepIn K (.ref f51) = true)
    (a52 : PySem.W.nsIn K mainGlobals "_law_same" = some (some (.ref f52))) (l52 : K.lookup f52 = some ⟨oc52, od52, .func (PySem.W.fnOf "_law_same" "_law_same" (defArgs s_law_same) (defBody s_law_same) (defScope s_law_same) .none kV52 dc52 pm52 an52 cd52 ct52), sl52⟩) (e52 : PySem.W.codeIn K cd52 "_law_same" = true) (k52 : PySem.W.keepIn K (.ref f52) = true)
    (a53 : PySem.W.nsIn K mainGlobals "_law_pick" = some (some (.ref f53))) (l53 : K.lookup f53 = some ⟨oc53, od53, .func (PySem.W.fnOf "_law_pick" "_law_pick" (defArgs s_law_pick) (defBody s_law_pick) (defScope s_law_pick) .none kV53 dc53 pm53 an53 cd53 ct53), sl53⟩) (e53 : PySem.W.codeIn K cd53 "_law_pick" = true) (k53 : PySem.W.keepIn K (.ref f53) = true)
    (a54 : PySem.W.nsIn K mainGlobals "_law_totals" = some (some (.ref f54))) (l54 : K.lookup f54 = some ⟨oc54, od54, .func (PySem.W.fnOf "_law_totals" "_law_totals" (defArgs s_law_totals) (defBody s_law_totals) (defScope s_law_totals) .none kV54 dc54 pm54 an54 cd54 ct54), sl54⟩) (e54 : PySem.W.codeIn K cd54 "_law_totals" = true) (k54 : PySem.W.keepIn K (.ref f54) = true)
    (a55 : PySem.W.nsIn K mainGlobals "_law_sum" = some (some (.ref f55))) (l55 : K.lookup f55 = some ⟨oc55, od55, .func (PySem.W.fnOf "_law_sum" "_law_sum" (defArgs s_law_sum) (defBody s_law_sum) (defScope s_law_sum) .none kV55 dc55 pm55 an55 cd55 ct55), sl55⟩) (e55 : PySem.W.codeIn K cd55 "_law_sum" = true) (k55 : PySem.W.keepIn K (.ref f55) = true)
    (a56 : PySem.W.nsIn K mainGlobals "_law_many" = some (some (.ref f56))) (l56 : K.lookup f56 = some ⟨oc56, od56, .func (PySem.W.fnOf "_law_many" "_law_many" (defArgs s_law_many) (defBody s_law_many) (defScope s_law_many) .none kV56 dc56 pm56 an56 cd56 ct56), sl56⟩) (e56 : PySem.W.codeIn K cd56 "_law_many" = true) (k56 : PySem.W.keepIn K (.ref f56) = true)
    (a57 : PySem.W.nsIn K mainGlobals "_law_summary" = some (some (.ref f57))) (l57 : K.lookup f57 = some ⟨oc57, od57, .func (PySem.W.fnOf "_law_summary" "_law_summary" (defArgs s_law_summary) (defBody s_law_summary) (defScope s_law_summary) .none kV57 dc57 pm57 an57 cd57 ct57), sl57⟩) (e57 : PySem.W.codeIn K cd57 "_law_summary" = true) (k57 : PySem.W.keepIn K (.ref f57) = true)
    (a58 : PySem.W.nsIn K mainGlobals "_law_last_rows" = some (some (.ref f58))) (l58 : K.lookup f58 = some ⟨oc58, od58, .func (PySem.W.fnOf "_law_last_rows" "_law_last_rows" (defArgs s_law_last_rows) (defBody s_law_last_rows) (defScope s_law_last_rows) .none kV58 dc58 pm58 an58 cd58 ct58), sl58⟩) (e58 : PySem.W.codeIn K cd58 "_law_last_rows" = true) (k58 : PySem.W.keepIn K (.ref f58) = true)
    (a59 : PySem.W.nsIn K mainGlobals "law" = some (some (.ref f59))) (l59 : K.lookup f59 = some ⟨oc59, od59, .func (PySem.W.fnOf "law" "law" (defArgs s_law) (defBody s_law) (defScope s_law) .none kV59 dc59 pm59 an59 cd59 ct59), sl59⟩) (e59 : PySem.W.codeIn K cd59 "law" = true) (k59 : PySem.W.keepIn K (.ref f59) = true)
    (a60 : PySem.W.nsIn K mainGlobals "require_flags" = some (some (.ref f60))) (l60 : K.lookup f60 = some ⟨oc60, od60, .func (PySem.W.fnOf "require_flags" "require_flags" (defArgs s_require_flags0) (defBody s_require_flags0) (defScope s_require_flags0) .none kV60 dc60 pm60 an60 cd60 ct60), sl60⟩) (e60 : PySem.W.codeIn K cd60 "require_flags" = true) (k60 : PySem.W.keepIn K (.ref f60) = true)
    (a61 : PySem.W.nsIn K mainGlobals "held" = some (some (.ref f61))) (l61 : K.lookup f61 = some ⟨oc61, od61, .func (PySem.W.fnOf "held" "held" (defArgs s_held0) (defBody s_held0) (defScope s_held0) .none kV61 dc61 pm61 an61 cd61 ct61), sl61⟩) (e61 : PySem.W.codeIn K cd61 "held" = true) (k61 : PySem.W.keepIn K (.ref f61) = true)
    (a62 : PySem.W.findIn K (.ref C_Example) "__init__" = some (some (.ref f62))) (i62 : PySem.W.isFn K (.ref f62) = true) (l62 : K.lookup f62 = some ⟨oc62, od62, .func (PySem.W.fnOf "__init__" "Example.__init__" (defArgs s_Example_init) (defBody s_Example_init) (defScope s_Example_init) (.ref T62) (.ref KD62) dc62 pm62 an62 cd62 ct62), sl62⟩) (e62 : PySem.W.codeIn K cd62 "Example.__init__" = true) (k62 : PySem.W.keepIn K (.ref f62) = true)
    (t62 : K.lookup T62 = some ⟨Tc62, Td62, .seq #[.str "" tk62_0] Tn62, Ts62⟩) (w62_error : PySem.W.nsIn K KD62 "error" = some (some (.none))) (w62_line : PySem.W.nsIn K KD62 "line" = some (some (.int 1 kt62_line))) (w62_indent : PySem.W.nsIn K KD62 "indent" = some (some (.int 0 kt62_indent))) (w62_options : PySem.W.nsIn K KD62 "options" = some (some (.none)))
    (a63 : PySem.W.findIn K (.ref C_Test) "__init__" = some (some (.ref f63))) (i63 : PySem.W.isFn K (.ref f63) = true) (l63 : K.lookup f63 = some ⟨oc63, od63, .func (PySem.W.fnOf "__init__" "Test.__init__" (defArgs s_Test_init) (defBody s_Test_init) (defScope s_Test_init) (.ref T63) kV63 dc63 pm63 an63 cd63 ct63), sl63⟩) (e63 : PySem.W.codeIn K cd63 "Test.__init__" = true) (k63 : PySem.W.keepIn K (.ref f63) = true)
    (t63 : K.lookup T63 = some ⟨Tc63, Td63, .seq #[.none, .str "text" tk63_1, .none, .none] Tn63, Ts63⟩)
    (a64 : PySem.W.findIn K (.ref C_Runner) "__init__" = some (some (.ref f64))) (i64 : PySem.W.isFn K (.ref f64) = true) (l64 : K.lookup f64 = some ⟨oc64, od64, .func (PySem.W.fnOf "__init__" "Runner.__init__" (defArgs s_Runner_init) (defBody s_Runner_init) (defScope s_Runner_init) (.ref T64) kV64 dc64 pm64 an64 cd64 ct64), sl64⟩) (e64 : PySem.W.codeIn K cd64 "Runner.__init__" = true) (k64 : PySem.W.keepIn K (.ref f64) = true)
    (t64 : K.lookup T64 = some ⟨Tc64, Td64, .seq #[.ref E64_0] Tn64, Ts64⟩) (u64_0 : K.lookup E64_0 = some ⟨.type "tuple", Ed64_0, .seq #[] En64_0, Es64_0⟩)
    (a65 : PySem.W.findIn K (.ref C_Test) "examples" = some (some (.ref f65))) (i65 : PySem.W.isFn K (.ref f65) = true) (l65 : K.lookup f65 = some ⟨oc65, od65, .func (PySem.W.fnOf "examples" "Test.examples" (defArgs s_Test_examples) (defBody s_Test_examples) (defScope s_Test_examples) .none kV65 dc65 pm65 an65 cd65 ct65), sl65⟩) (e65 : PySem.W.codeIn K cd65 "Test.examples" = true) (k65 : PySem.W.keepIn K (.ref f65) = true)
    (a66 : PySem.W.findIn K (.ref C_Test) "tried" = some (some (.ref f66))) (i66 : PySem.W.isFn K (.ref f66) = true) (l66 : K.lookup f66 = some ⟨oc66, od66, .func (PySem.W.fnOf "tried" "Test.tried" (defArgs s_Test_tried) (defBody s_Test_tried) (defScope s_Test_tried) .none kV66 dc66 pm66 an66 cd66 ct66), sl66⟩) (e66 : PySem.W.codeIn K cd66 "Test.tried" = true) (k66 : PySem.W.keepIn K (.ref f66) = true)
    (a67 : PySem.W.findIn K (.ref C_Test) "forget" = some (some (.ref f67))) (i67 : PySem.W.isFn K (.ref f67) = true) (l67 : K.lookup f67 = some ⟨oc67, od67, .func (PySem.W.fnOf "forget" "Test.forget" (defArgs s_Test_forget) (defBody s_Test_forget) (defScope s_Test_forget) .none kV67 dc67 pm67 an67 cd67 ct67), sl67⟩) (e67 : PySem.W.codeIn K cd67 "Test.forget" = true) (k67 : PySem.W.keepIn K (.ref f67) = true)
    (a68 : PySem.W.findIn K (.ref C_Runner) "run" = some (some (.ref f68))) (i68 : PySem.W.isFn K (.ref f68) = true) (l68 : K.lookup f68 = some ⟨oc68, od68, .func (PySem.W.fnOf "run" "Runner.run" (defArgs s_Runner_run) (defBody s_Runner_run) (defScope s_Runner_run) .none (.ref KD68) dc68 pm68 an68 cd68 ct68), sl68⟩) (e68 : PySem.W.codeIn K cd68 "Runner.run" = true) (k68 : PySem.W.keepIn K (.ref f68) = true)
    (w68_verbose : PySem.W.nsIn K KD68 "verbose" = some (some (.bool false)))
    (w68_clear : PySem.W.nsIn K KD68 "clear" = some (some (.bool true)))
    (a69 : PySem.W.findIn K (.ref C_Runner) "ended_run" = some (some (.ref f69))) (i69 : PySem.W.isFn K (.ref f69) = true) (l69 : K.lookup f69 = some ⟨oc69, od69, .func (PySem.W.fnOf "ended_run" "Runner.ended_run" (defArgs s_Runner_ended_run) (defBody s_Runner_ended_run) (defScope s_Runner_ended_run) .none kV69 dc69 pm69 an69 cd69 ct69), sl69⟩) (e69 : PySem.W.codeIn K cd69 "Runner.ended_run" = true) (k69 : PySem.W.keepIn K (.ref f69) = true)
    (a70 : PySem.W.findIn K (.ref C_Runner) "tally" = some (some (.ref f70))) (i70 : PySem.W.isFn K (.ref f70) = true) (l70 : K.lookup f70 = some ⟨oc70, od70, .func (PySem.W.fnOf "tally" "Runner.tally" (defArgs s_Runner_tally) (defBody s_Runner_tally) (defScope s_Runner_tally) .none kV70 dc70 pm70 an70 cd70 ct70), sl70⟩) (e70 : PySem.W.codeIn K cd70 "Runner.tally" = true) (k70 : PySem.W.keepIn K (.ref f70) = true)
    (a71 : PySem.W.findIn K (.ref C_Runner) "total" = some (some (.ref f71))) (i71 : PySem.W.isFn K (.ref f71) = true) (l71 : K.lookup f71 = some ⟨oc71, od71, .func (PySem.W.fnOf "total" "Runner.total" (defArgs s_Runner_total) (defBody s_Runner_total) (defScope s_Runner_total) .none kV71 dc71 pm71 an71 cd71 ct71), sl71⟩) (e71 : PySem.W.codeIn K cd71 "Runner.total" = true) (k71 : PySem.W.keepIn K (.ref f71) = true)
    (a72 : PySem.W.findIn K (.ref C_Runner) "counts" = some (some (.ref f72))) (i72 : PySem.W.isFn K (.ref f72) = true) (l72 : K.lookup f72 = some ⟨oc72, od72, .func (PySem.W.fnOf "counts" "Runner.counts" (defArgs s_Runner_counts) (defBody s_Runner_counts) (defScope s_Runner_counts) .none kV72 dc72 pm72 an72 cd72 ct72), sl72⟩) (e72 : PySem.W.codeIn K cd72 "Runner.counts" = true) (k72 : PySem.W.keepIn K (.ref f72) = true)
    (a73 : PySem.W.findIn K (.ref C_Runner) "summary" = some (some (.ref f73))) (i73 : PySem.W.isFn K (.ref f73) = true) (l73 : K.lookup f73 = some ⟨oc73, od73, .func (PySem.W.fnOf "summary" "Runner.summary" (defArgs s_Runner_summary) (defBody s_Runner_summary) (defScope s_Runner_summary) (.ref T73) kV73 dc73 pm73 an73 cd73 ct73), sl73⟩) (e73 : PySem.W.codeIn K cd73 "Runner.summary" = true) (k73 : PySem.W.keepIn K (.ref f73) = true)
    (t73 : K.lookup T73 = some ⟨Tc73, Td73, .seq #[.bool false] Tn73, Ts73⟩)
    (aC_Example : PySem.W.nsIn K mainGlobals "Example" = some (some (.ref C_Example))) (pg_Example : PySem.W.plainGet K C_Example Str.empty = true) (hd_Example : PySem.W.hasDictIn K C_Example = true) (po_Example : PySem.W.plainOver K C_Example = true) (sa_Example : PySem.W.findIn K (.ref C_Example) "__setattr__" = some (some (.builtin "object.__setattr__"))) (mk_Example : PySem.W.makesIn K C_Example = true) (kc_Example : PySem.W.keepIn K (.ref C_Example) = true) (ha_Example : PySem.W.findIn K (.ref C_Example) "__class__" = some (some (.builtin "object.__class__"))) (hn_Example : PySem.W.specialIn K (.builtin "object.__class__") "__get__" = some (some (.builtin "getset_descriptor.__get__"))) (ht_Example : PySem.W.takesIn K (.builtin "object.__class__") = some true) (hm_Example : PySem.W.mroIn K C_Example (.type "object") = some true)
    (nf_Example_source : PySem.W.findIn K (.ref C_Example) "source" = some none)
    (nf_Example_want : PySem.W.findIn K (.ref C_Example) "want" = some none)
    (nf_Example_error : PySem.W.findIn K (.ref C_Example) "error" = some none)
    (nf_Example_line : PySem.W.findIn K (.ref C_Example) "line" = some none)
    (nf_Example_indent : PySem.W.findIn K (.ref C_Example) "indent" = some none)
    (nf_Example_options : PySem.W.findIn K (.ref C_Example) "options" = some none)
    (nf_Example_bare : PySem.W.findIn K (.ref C_Example) "bare" = some none)
    (aC_Test : PySem.W.nsIn K mainGlobals "Test" = some (some (.ref C_Test))) (pg_Test : PySem.W.plainGet K C_Test Str.empty = true) (hd_Test : PySem.W.hasDictIn K C_Test = true) (po_Test : PySem.W.plainOver K C_Test = true) (sa_Test : PySem.W.findIn K (.ref C_Test) "__setattr__" = some (some (.builtin "object.__setattr__"))) (mk_Test : PySem.W.makesIn K C_Test = true) (kc_Test : PySem.W.keepIn K (.ref C_Test) = true) (ha_Test : PySem.W.findIn K (.ref C_Test) "__class__" = some (some (.builtin "object.__class__"))) (hn_Test : PySem.W.specialIn K (.builtin "object.__class__") "__get__" = some (some (.builtin "getset_descriptor.__get__"))) (ht_Test : PySem.W.takesIn K (.builtin "object.__class__") = some true) (hm_Test : PySem.W.mroIn K C_Test (.type "object") = some true)
    (nf_Test__names : PySem.W.findIn K (.ref C_Test) "_names" = some none)
    (nf_Test__examples : PySem.W.findIn K (.ref C_Test) "_examples" = some none)
    (nf_Test_name : PySem.W.findIn K (.ref C_Test) "name" = some none)
    (nf_Test_file : PySem.W.findIn K (.ref C_Test) "file" = some none)
    (nf_Test_line : PySem.W.findIn K (.ref C_Test) "line" = some none)
    (aC_Runner : PySem.W.nsIn K mainGlobals "Runner" = some (some (.ref C_Runner))) (pg_Runner : PySem.W.plainGet K C_Runner Str.empty = true) (hd_Runner : PySem.W.hasDictIn K C_Runner = true) (po_Runner : PySem.W.plainOver K C_Runner = true) (sa_Runner : PySem.W.findIn K (.ref C_Runner) "__setattr__" = some (some (.builtin "object.__setattr__"))) (mk_Runner : PySem.W.makesIn K C_Runner = true) (kc_Runner : PySem.W.keepIn K (.ref C_Runner) = true) (ha_Runner : PySem.W.findIn K (.ref C_Runner) "__class__" = some (some (.builtin "object.__class__"))) (hn_Runner : PySem.W.specialIn K (.builtin "object.__class__") "__get__" = some (some (.builtin "getset_descriptor.__get__"))) (ht_Runner : PySem.W.takesIn K (.builtin "object.__class__") = some true) (hm_Runner : PySem.W.mroIn K C_Runner (.type "object") = some true)
    (nf_Runner__play : PySem.W.findIn K (.ref C_Runner) "_play" = some none)
    (nf_Runner__flags : PySem.W.findIn K (.ref C_Runner) "_flags" = some none)
    (nf_Runner__counts : PySem.W.findIn K (.ref C_Runner) "_counts" = some none)
    (y_BLANKS : PySem.W.nsIn K mainGlobals "BLANKS" = some (some (.str " \t" t_BLANKS)))
    (y_DOTS : PySem.W.nsIn K mainGlobals "DOTS" = some (some (.str "..." t_DOTS)))
    (y_ELLIPSIS : PySem.W.nsIn K mainGlobals "ELLIPSIS" = some (some (.str "ELLIPSIS" t_ELLIPSIS)))
    (y_ERROR : PySem.W.nsIn K mainGlobals "ERROR" = some (some (.str "error" t_ERROR)))
    (y_FAILED : PySem.W.nsIn K mainGlobals "FAILED" = some (some (.int 0 t_FAILED)))
    (y_FAILURE : PySem.W.nsIn K mainGlobals "FAILURE" = some (some (.str "failure" t_FAILURE)))
    (y_FAIL_FAST : PySem.W.nsIn K mainGlobals "FAIL_FAST" = some (some (.str "FAIL_FAST" t_FAIL_FAST)))
    (y_FIRST_FAILURE : PySem.W.nsIn K mainGlobals "FIRST_FAILURE" = some (some (.str "REPORT_ONLY_FIRST_FAILURE" t_FIRST_FAILURE)))
    (y_FLAGS : PySem.W.nsIn K mainGlobals "FLAGS" = some (some (.ref a_FLAGS))) (x_FLAGS : K.lookup a_FLAGS = some ⟨.type "tuple", ad_FLAGS, .seq #[.str "DONT_ACCEPT_TRUE_FOR_1" t_FLAGS0, .str "DONT_ACCEPT_BLANKLINE" t_FLAGS1, .str "NORMALIZE_WHITESPACE" t_FLAGS2, .str "ELLIPSIS" t_FLAGS3, .str "SKIP" t_FLAGS4, .str "IGNORE_EXCEPTION_DETAIL" t_FLAGS5, .str "REPORT_ONLY_FIRST_FAILURE" t_FLAGS6, .str "FAIL_FAST" t_FLAGS7] an_FLAGS, as_FLAGS⟩)
    (y_MARK_directives : PySem.W.nsIn K mainGlobals "MARK_directives" = some (some (.str "doctest:" t_MARK_directives)))
    (y_MARK_stages : PySem.W.nsIn K mainGlobals "MARK_stages" = some (some (.str "<BLANKLINE>" t_MARK_stages)))
    (y_NORMALIZE : PySem.W.nsIn K mainGlobals "NORMALIZE" = some (some (.str "NORMALIZE_WHITESPACE" t_NORMALIZE)))
    (y_NO_BLANKLINE : PySem.W.nsIn K mainGlobals "NO_BLANKLINE" = some (some (.str "DONT_ACCEPT_BLANKLINE" t_NO_BLANKLINE)))
    (y_ONE_IS_NOT_TRUE : PySem.W.nsIn K mainGlobals "ONE_IS_NOT_TRUE" = some (some (.str "DONT_ACCEPT_TRUE_FOR_1" t_ONE_IS_NOT_TRUE)))
    (y_PASSED_OVER : PySem.W.nsIn K mainGlobals "PASSED_OVER" = some (some (.int 2 t_PASSED_OVER)))
    (y_SHAPES : PySem.W.nsIn K mainGlobals "SHAPES" = some (some (.ref a_SHAPES))) (x_SHAPES : K.lookup a_SHAPES = some ⟨.type "dict", none, .dict #[⟨h_SHAPES0, .str "print" t_SHAPES0, .ref A_SHAPES0⟩, ⟨h_SHAPES1, .str "show" t_SHAPES1, .ref A_SHAPES1⟩, ⟨h_SHAPES2, .str "set" t_SHAPES2, .ref A_SHAPES2⟩, ⟨h_SHAPES3, .str "copy" t_SHAPES3, .ref A_SHAPES3⟩, ⟨h_SHAPES4, .str "delete" t_SHAPES4, .ref A_SHAPES4⟩, ⟨h_SHAPES5, .str "raise" t_SHAPES5, .ref A_SHAPES5⟩] an_SHAPES, #[]⟩) (w_SHAPES : (a_SHAPES == sysModules) = false) (h_SHAPES0_ok : h_SHAPES0 = PyData.keyHash w.params "print") (h_SHAPES1_ok : h_SHAPES1 = PyData.keyHash w.params "show") (h_SHAPES2_ok : h_SHAPES2 = PyData.keyHash w.params "set") (h_SHAPES3_ok : h_SHAPES3 = PyData.keyHash w.params "copy") (h_SHAPES4_ok : h_SHAPES4 = PyData.keyHash w.params "delete") (h_SHAPES5_ok : h_SHAPES5 = PyData.keyHash w.params "raise") (xp_SHAPES0 : K.lookup A_SHAPES0 = some ⟨.type "tuple", pd_SHAPES0, .seq #[.str "text" pt_SHAPES0_0] pn_SHAPES0, ps_SHAPES0⟩) (xp_SHAPES1 : K.lookup A_SHAPES1 = some ⟨.type "tuple", pd_SHAPES1, .seq #[.str "name" pt_SHAPES1_0] pn_SHAPES1, ps_SHAPES1⟩) (xp_SHAPES2 : K.lookup A_SHAPES2 = some ⟨.type "tuple", pd_SHAPES2, .seq #[.str "name" pt_SHAPES2_0, .str "value" pt_SHAPES2_1] pn_SHAPES2, ps_SHAPES2⟩) (xp_SHAPES3 : K.lookup A_SHAPES3 = some ⟨.type "tuple", pd_SHAPES3, .seq #[.str "name" pt_SHAPES3_0, .str "name" pt_SHAPES3_1] pn_SHAPES3, ps_SHAPES3⟩) (xp_SHAPES4 : K.lookup A_SHAPES4 = some ⟨.type "tuple", pd_SHAPES4, .seq #[.str "name" pt_SHAPES4_0] pn_SHAPES4, ps_SHAPES4⟩) (xp_SHAPES5 : K.lookup A_SHAPES5 = some ⟨.type "tuple", pd_SHAPES5, .seq #[.str "kind of error" pt_SHAPES5_0, .str "text" pt_SHAPES5_1] pn_SHAPES5, ps_SHAPES5⟩)
    (y_SKIP : PySem.W.nsIn K mainGlobals "SKIP" = some (some (.str "SKIP" t_SKIP)))
    (y_SKIPPED : PySem.W.nsIn K mainGlobals "SKIPPED" = some (some (.str "skipped" t_SKIPPED)))
    (y_STARS : PySem.W.nsIn K mainGlobals "STARS" = some (some (.str "**********************************************************************\n" t_STARS)))
    (y_SUCCESS : PySem.W.nsIn K mainGlobals "SUCCESS" = some (some (.str "success" t_SUCCESS)))
    (y_TRIED : PySem.W.nsIn K mainGlobals "TRIED" = some (some (.int 1 t_TRIED)))
    (y_TRUTHS : PySem.W.nsIn K mainGlobals "TRUTHS" = some (some (.ref a_TRUTHS))) (x_TRUTHS : K.lookup a_TRUTHS = some ⟨.type "dict", none, .dict #[⟨h_TRUTHS0, .str "1\n" t_TRUTHS0, .str "True\n" u_TRUTHS0⟩, ⟨h_TRUTHS1, .str "0\n" t_TRUTHS1, .str "False\n" u_TRUTHS1⟩] an_TRUTHS, #[]⟩) (w_TRUTHS : (a_TRUTHS == sysModules) = false) (h_TRUTHS0_ok : h_TRUTHS0 = PyData.keyHash w.params "1\n") (h_TRUTHS1_ok : h_TRUTHS1 = PyData.keyHash w.params "0\n")
    (z_all : PySem.W.nsIn K mainGlobals "all" = some none)
    (z_bool : PySem.W.nsIn K mainGlobals "bool" = some none)
    (z_dict : PySem.W.nsIn K mainGlobals "dict" = some none)
    (z_int : PySem.W.nsIn K mainGlobals "int" = some none)
    (z_isinstance : PySem.W.nsIn K mainGlobals "isinstance" = some none)
    (z_len : PySem.W.nsIn K mainGlobals "len" = some none)
    (z_list : PySem.W.nsIn K mainGlobals "list" = some none)
    (z_max : PySem.W.nsIn K mainGlobals "max" = some none)
    (z_range : PySem.W.nsIn K mainGlobals "range" = some none)
    (z_sorted : PySem.W.nsIn K mainGlobals "sorted" = some none)
    (z_str : PySem.W.nsIn K mainGlobals "str" = some none)
    (z_sum : PySem.W.nsIn K mainGlobals "sum" = some none)
    (z_tuple : PySem.W.nsIn K mainGlobals "tuple" = some none)
    (z_zip : PySem.W.nsIn K mainGlobals "zip" = some none)
    (z_dg1 : PySem.W.nsOkIn K cStatics = true)
    (z_dg : PySem.W.nsIn K cStatics "sys.int_max_str_digits" = some none)
    :
    ∃ fd : FuncData, (∀ (s : Shared) (v : Value), BindsTo s fd ⟨[v], []⟩ [("script", v)]) ∧ ∀ base : Heap, K.In base → base.Ns mainGlobals mg → FnOk l.prog w K mg base CX0 9 fa fd ["script"] (sp_law K) := by
  have e := hfa.symm.trans (PySem.W.mg_of X G a59)
  cases e
  have F0 : Fn K "held" s_held [] _ _ := Fn.mk' l0 e0 k0 (.inl ⟨rfl, rfl⟩)
  have F1 : Fn K "is_flag" s_is_flag [] _ _ := Fn.mk' l1 e1 k1 (.inl ⟨rfl, rfl⟩)
  have F2 : Fn K "require_flags" s_require_flags [] _ _ := Fn.mk' l2 e2 k2 (.inl ⟨rfl, rfl⟩)
  have F3 : Fn K "in_force" s_in_force [] _ _ := Fn.mk' l3 e3 k3 (.inl ⟨rfl, rfl⟩)
  have F4 : Fn K "is_blank" s_is_blank [] _ _ := Fn.mk' l4 e4 k4 (.inl ⟨rfl, rfl⟩)
  have F5 : Fn K "is_mark" s_is_mark [] _ _ := Fn.mk' l5 e5 k5 (.inl ⟨rfl, rfl⟩)
  have F6 : Fn K "marks_emptied" s_marks_emptied [] _ _ := Fn.mk' l6 e6 k6 (.inl ⟨rfl, rfl⟩)
  have F7 : Fn K "blanks_emptied" s_blanks_emptied [] _ _ := Fn.mk' l7 e7 k7 (.inl ⟨rfl, rfl⟩)
  have F8 : Fn K "has_pieces" s_has_pieces [] _ _ := Fn.mk' l8 e8 k8 (.inl ⟨rfl, rfl⟩)
  have F9 : Fn K "lets_by" s_lets_by [] _ _ := Fn.mk' l9 e9 k9 (.inl ⟨rfl, rfl⟩)
  have F10 : Fn K "indented" s_indented [] _ _ := Fn.mk' l10 e10 k10 (.inl ⟨rfl, rfl⟩)
  have F11 : Fn K "told" s_told [] _ _ := Fn.mk' l11 e11 k11 (.inl ⟨rfl, rfl⟩)
  have F12 : Fn K "blanks_marked" s_blanks_marked [] _ _ := Fn.mk' l12 e12 k12 (.inl ⟨rfl, rfl⟩)
  have F13 : Fn K "difference_text" s_difference_text [.ref E13_0] _ _ := Fn.mk' l13 e13 k13 (.inr ⟨by simp, T13, _, _, _, rfl, t13, rfl, (.cons rfl .nil)⟩)
  have Q_E_difference_text0 : ∀ H, SqT K H E13_0 [] := fun H => .inr ⟨_, #[], _, u13_0, rfl, rfl, by decide, .nil⟩
  have F14 : Fn K "kept_lines" s_kept_lines [] _ _ := Fn.mk' l14 e14 k14 (.inl ⟨rfl, rfl⟩)
  have F15 : Fn K "lines_of" s_lines_of [] _ _ := Fn.mk' l15 e15 k15 (.inl ⟨rfl, rfl⟩)
  have F16 : Fn K "fed" s_fed [] _ _ := Fn.mk' l16 e16 k16 (.inl ⟨rfl, rfl⟩)
  have F17 : Fn K "is_text" s_is_text [] _ _ := Fn.mk' l17 e17 k17 (.inl ⟨rfl, rfl⟩)
  have F18 : Fn K "held_names" s_held_names [] _ _ := Fn.mk' l18 e18 k18 (.inl ⟨rfl, rfl⟩)
  have F19 : Fn K "fits" s_fits [] _ _ := Fn.mk' l19 e19 k19 (.inl ⟨rfl, rfl⟩)
  have F20 : Fn K "is_deed" s_is_deed [] _ _ := Fn.mk' l20 e20 k20 (.inl ⟨rfl, rfl⟩)
  have F21 : Fn K "is_act" s_is_act [] _ _ := Fn.mk' l21 e21 k21 (.inl ⟨rfl, rfl⟩)
  have F22 : Fn K "is_play" s_is_play [] _ _ := Fn.mk' l22 e22 k22 (.inl ⟨rfl, rfl⟩)
  have F23 : Fn K "require_play" s_require_play [] _ _ := Fn.mk' l23 e23 k23 (.inl ⟨rfl, rfl⟩)
  have F24 : Fn K "played" s_played [] _ _ := Fn.mk' l24 e24 k24 (.inl ⟨rfl, rfl⟩)
  have F25 : Fn K "done" s_done [] _ _ := Fn.mk' l25 e25 k25 (.inl ⟨rfl, rfl⟩)
  have F26 : Fn K "ended" s_ended [] _ _ := Fn.mk' l26 e26 k26 (.inl ⟨rfl, rfl⟩)
  have F27 : Fn K "outcome_of" s_outcome_of [] _ _ := Fn.mk' l27 e27 k27 (.inl ⟨rfl, rfl⟩)
  have F28 : Fn K "word_of" s_word_of [] _ _ := Fn.mk' l28 e28 k28 (.inl ⟨rfl, rfl⟩)
  have F29 : Fn K "has_failed" s_has_failed [] _ _ := Fn.mk' l29 e29 k29 (.inl ⟨rfl, rfl⟩)
  have F30 : Fn K "got_in_all" s_got_in_all [] _ _ := Fn.mk' l30 e30 k30 (.inl ⟨rfl, rfl⟩)
  have F31 : Fn K "report_of" s_report_of [] _ _ := Fn.mk' l31 e31 k31 (.inl ⟨rfl, rfl⟩)
  have F32 : Fn K "failure_report" s_failure_report [] _ _ := Fn.mk' l32 e32 k32 (.inl ⟨rfl, rfl⟩)
  have F33 : Fn K "place_of" s_place_of [] _ _ := Fn.mk' l33 e33 k33 (.inl ⟨rfl, rfl⟩)
  have F34 : Fn K "counts_of" s_counts_of [] _ _ := Fn.mk' l34 e34 k34 (.inl ⟨rfl, rfl⟩)
  have F35 : Fn K "summed" s_summed [] _ _ := Fn.mk' l35 e35 k35 (.inl ⟨rfl, rfl⟩)
  have F36 : Fn K "number_of" s_number_of [] _ _ := Fn.mk' l36 e36 k36 (.inl ⟨rfl, rfl⟩)
  have F37 : Fn K "summary_of" s_summary_of [] _ _ := Fn.mk' l37 e37 k37 (.inl ⟨rfl, rfl⟩)
  have F38 : Fn K "untried_lines" s_untried_lines [] _ _ := Fn.mk' l38 e38 k38 (.inl ⟨rfl, rfl⟩)
  have F39 : Fn K "passed_lines" s_passed_lines [] _ _ := Fn.mk' l39 e39 k39 (.inl ⟨rfl, rfl⟩)
  have F40 : Fn K "passed_line" s_passed_line [] _ _ := Fn.mk' l40 e40 k40 (.inl ⟨rfl, rfl⟩)
  have F41 : Fn K "failed_lines" s_failed_lines [] _ _ := Fn.mk' l41 e41 k41 (.inl ⟨rfl, rfl⟩)
  have F42 : Fn K "failed_line" s_failed_line [] _ _ := Fn.mk' l42 e42 k42 (.inl ⟨rfl, rfl⟩)
  have F43 : Fn K "headed" s_headed [] _ _ := Fn.mk' l43 e43 k43 (.inl ⟨rfl, rfl⟩)
  have F44 : Fn K "total_lines" s_total_lines [] _ _ := Fn.mk' l44 e44 k44 (.inl ⟨rfl, rfl⟩)
  have F45 : Fn K "last_lines" s_last_lines [] _ _ := Fn.mk' l45 e45 k45 (.inl ⟨rfl, rfl⟩)
  have F46 : Fn K "directive_of" s_directive_of [] _ _ := Fn.mk' l46 e46 k46 (.inl ⟨rfl, rfl⟩)
  have F47 : Fn K "bare_of" s_bare_of [] _ _ := Fn.mk' l47 e47 k47 (.inl ⟨rfl, rfl⟩)
  have F48 : Fn K "bare_line" s_bare_line [] _ _ := Fn.mk' l48 e48 k48 (.inl ⟨rfl, rfl⟩)
  have F49 : Fn K "_law_draws" s_law_draws [] _ _ := Fn.mk' l49 e49 k49 (.inl ⟨rfl, rfl⟩)
  have F50 : Fn K "_law_mixed" s_law_mixed [] _ _ := Fn.mk' l50 e50 k50 (.inl ⟨rfl, rfl⟩)
  have F51 : Fn K "_law_take" s_law_take [] _ _ := Fn.mk' l51 e51 k51 (.inl ⟨rfl, rfl⟩)
  have F52 : Fn K "_law_same" s_law_same [] _ _ := Fn.mk' l52 e52 k52 (.inl ⟨rfl, rfl⟩)
  have F53 : Fn K "_law_pick" s_law_pick [] _ _ := Fn.mk' l53 e53 k53 (.inl ⟨rfl, rfl⟩)
  have F54 : Fn K "_law_totals" s_law_totals [] _ _ := Fn.mk' l54 e54 k54 (.inl ⟨rfl, rfl⟩)
  have F55 : Fn K "_law_sum" s_law_sum [] _ _ := Fn.mk' l55 e55 k55 (.inl ⟨rfl, rfl⟩)
  have F56 : Fn K "_law_many" s_law_many [] _ _ := Fn.mk' l56 e56 k56 (.inl ⟨rfl, rfl⟩)
  have F57 : Fn K "_law_summary" s_law_summary [] _ _ := Fn.mk' l57 e57 k57 (.inl ⟨rfl, rfl⟩)
  have F58 : Fn K "_law_last_rows" s_law_last_rows [] _ _ := Fn.mk' l58 e58 k58 (.inl ⟨rfl, rfl⟩)
  have F59 : Fn K "law" s_law [] _ _ := Fn.mk' l59 e59 k59 (.inl ⟨rfl, rfl⟩)
  have F60 : Fn K "require_flags" s_require_flags0 [] _ _ := Fn.mk' l60 e60 k60 (.inl ⟨rfl, rfl⟩)
  have F61 : Fn K "held" s_held0 [] _ _ := Fn.mk' l61 e61 k61 (.inl ⟨rfl, rfl⟩)
  have KW62 : ∀ q ∈ ([("error", .non), ("line", .int 1), ("indent", .int 0), ("options", .non)] : List (Str × V)), ∃ u, PySem.W.nsIn K KD62 q.1 = some (some u) ∧ RelV q.2 u := fun q hq => by
    simp only [List.mem_cons, List.not_mem_nil, or_false] at hq
    rcases hq with rfl | rfl | rfl | rfl
    · exact ⟨_, w62_error, rfl⟩
    · exact ⟨_, w62_line, ⟨_, rfl⟩⟩
    · exact ⟨_, w62_indent, ⟨_, rfl⟩⟩
    · exact ⟨_, w62_options, rfl⟩
  have F62 : FunD K "__init__" "Example.__init__" (defArgs s_Example_init) (defBody s_Example_init) (defScope s_Example_init) [.str ""] [("error", .non), ("line", .int 1), ("indent", .int 0), ("options", .non)] _ _ := ⟨⟨_, _, _, _, _, _, _, _, _, _, rfl, l62, e62, .inr ⟨by simp, T62, _, _, _, rfl, t62, rfl, (.cons ⟨_, rfl⟩ .nil)⟩, .inr ⟨KD62, rfl, KW62⟩⟩, k62⟩
  have F63 : FunD K "__init__" "Test.__init__" (defArgs s_Test_init) (defBody s_Test_init) (defScope s_Test_init) [.non, .str "text", .non, .non] [] _ _ := ⟨⟨_, _, _, _, _, _, _, _, _, _, rfl, l63, e63, .inr ⟨by simp, T63, _, _, _, rfl, t63, rfl, (.cons rfl (.cons ⟨_, rfl⟩ (.cons rfl (.cons rfl .nil))))⟩, .inl rfl⟩, k63⟩
  have F64 : FunD K "__init__" "Runner.__init__" (defArgs s_Runner_init) (defBody s_Runner_init) (defScope s_Runner_init) [.ref E64_0] [] _ _ := ⟨⟨_, _, _, _, _, _, _, _, _, _, rfl, l64, e64, .inr ⟨by simp, T64, _, _, _, rfl, t64, rfl, (.cons rfl .nil)⟩, .inl rfl⟩, k64⟩
  have Q_E_Runner_init0 : ∀ H, SqT K H E64_0 [] := fun H => .inr ⟨_, #[], _, u64_0, rfl, rfl, by decide, .nil⟩
  have F65 : FunD K "examples" "Test.examples" (defArgs s_Test_examples) (defBody s_Test_examples) (defScope s_Test_examples) [] [] _ _ := ⟨⟨_, _, _, _, _, _, _, _, _, _, rfl, l65, e65, .inl ⟨rfl, rfl⟩, .inl rfl⟩, k65⟩
  have F66 : FunD K "tried" "Test.tried" (defArgs s_Test_tried) (defBody s_Test_tried) (defScope s_Test_tried) [] [] _ _ := ⟨⟨_, _, _, _, _, _, _, _, _, _, rfl, l66, e66, .inl ⟨rfl, rfl⟩, .inl rfl⟩, k66⟩
  have F67 : FunD K "forget" "Test.forget" (defArgs s_Test_forget) (defBody s_Test_forget) (defScope s_Test_forget) [] [] _ _ := ⟨⟨_, _, _, _, _, _, _, _, _, _, rfl, l67, e67, .inl ⟨rfl, rfl⟩, .inl rfl⟩, k67⟩
  have KW68 : ∀ q ∈ ([("verbose", .bl false), ("clear", .bl true)] : List (Str × V)), ∃ u, PySem.W.nsIn K KD68 q.1 = some (some u) ∧ RelV q.2 u := fun q hq => by
    simp only [List.mem_cons, List.not_mem_nil, or_false] at hq
    rcases hq with rfl | rfl
    · exact ⟨_, w68_verbose, rfl⟩
    · exact ⟨_, w68_clear, rfl⟩
  have F68 : FunD K "run" "Runner.run" (defArgs s_Runner_run) (defBody s_Runner_run) (defScope s_Runner_run) [] [("verbose", .bl false), ("clear", .bl true)] _ _ := ⟨⟨_, _, _, _, _, _, _, _, _, _, rfl, l68, e68, .inl ⟨rfl, rfl⟩, .inr ⟨KD68, rfl, KW68⟩⟩, k68⟩
  have F69 : FunD K "ended_run" "Runner.ended_run" (defArgs s_Runner_ended_run) (defBody s_Runner_ended_run) (defScope s_Runner_ended_run) [] [] _ _ := ⟨⟨_, _, _, _, _, _, _, _, _, _, rfl, l69, e69, .inl ⟨rfl, rfl⟩, .inl rfl⟩, k69⟩
  have F70 : FunD K "tally" "Runner.tally" (defArgs s_Runner_tally) (defBody s_Runner_tally) (defScope s_Runner_tally) [] [] _ _ := ⟨⟨_, _, _, _, _, _, _, _, _, _, rfl, l70, e70, .inl ⟨rfl, rfl⟩, .inl rfl⟩, k70⟩
  have F71 : FunD K "total" "Runner.total" (defArgs s_Runner_total) (defBody s_Runner_total) (defScope s_Runner_total) [] [] _ _ := ⟨⟨_, _, _, _, _, _, _, _, _, _, rfl, l71, e71, .inl ⟨rfl, rfl⟩, .inl rfl⟩, k71⟩
  have F72 : FunD K "counts" "Runner.counts" (defArgs s_Runner_counts) (defBody s_Runner_counts) (defScope s_Runner_counts) [] [] _ _ := ⟨⟨_, _, _, _, _, _, _, _, _, _, rfl, l72, e72, .inl ⟨rfl, rfl⟩, .inl rfl⟩, k72⟩
  have F73 : FunD K "summary" "Runner.summary" (defArgs s_Runner_summary) (defBody s_Runner_summary) (defScope s_Runner_summary) [.bl false] [] _ _ := ⟨⟨_, _, _, _, _, _, _, _, _, _, rfl, l73, e73, .inr ⟨by simp, T73, _, _, _, rfl, t73, rfl, (.cons rfl .nil)⟩, .inl rfl⟩, k73⟩
  have T_Example : Txt_Example K mg C_Example := ⟨⟨pg_Example, hd_Example, po_Example, sa_Example⟩, PySem.W.mg_of X G aC_Example, ha_Example, hn_Example, ht_Example, hm_Example, kit_self K C_Example, nf_Example_source, nf_Example_want, nf_Example_error, nf_Example_line, nf_Example_indent, nf_Example_options, nf_Example_bare⟩
  have T_Test : Txt_Test K mg C_Test := ⟨⟨pg_Test, hd_Test, po_Test, sa_Test⟩, PySem.W.mg_of X G aC_Test, ha_Test, hn_Test, ht_Test, hm_Test, kit_self K C_Test, nf_Test__names, nf_Test__examples, nf_Test_name, nf_Test_file, nf_Test_line⟩
  have T_Runner : Txt_Runner K mg C_Runner := ⟨⟨pg_Runner, hd_Runner, po_Runner, sa_Runner⟩, PySem.W.mg_of X G aC_Runner, ha_Runner, hn_Runner, ht_Runner, hm_Runner, kit_self K C_Runner, nf_Runner__play, nf_Runner__flags, nf_Runner__counts⟩
  have m_all : mg "all" = none := PySem.W.mg_none_of X G z_all
  have m_bool : mg "bool" = none := PySem.W.mg_none_of X G z_bool
  have m_dict : mg "dict" = none := PySem.W.mg_none_of X G z_dict
  have m_int : mg "int" = none := PySem.W.mg_none_of X G z_int
  have m_isinstance : mg "isinstance" = none := PySem.W.mg_none_of X G z_isinstance
  have m_len : mg "len" = none := PySem.W.mg_none_of X G z_len
  have m_list : mg "list" = none := PySem.W.mg_none_of X G z_list
  have m_max : mg "max" = none := PySem.W.mg_none_of X G z_max
  have m_range : mg "range" = none := PySem.W.mg_none_of X G z_range
  have m_sorted : mg "sorted" = none := PySem.W.mg_none_of X G z_sorted
  have m_str : mg "str" = none := PySem.W.mg_none_of X G z_str
  have m_sum : mg "sum" = none := PySem.W.mg_none_of X G z_sum
  have m_tuple : mg "tuple" = none := PySem.W.mg_none_of X G z_tuple
  have m_zip : mg "zip" = none := PySem.W.mg_none_of X G z_zip
  have c_BLANKS := PySem.W.mg_of X G y_BLANKS
  have c_DOTS := PySem.W.mg_of X G y_DOTS
  have c_ELLIPSIS := PySem.W.mg_of X G y_ELLIPSIS
  have c_ERROR := PySem.W.mg_of X G y_ERROR
  have c_FAILED := PySem.W.mg_of X G y_FAILED
  have c_FAILURE := PySem.W.mg_of X G y_FAILURE
  have c_FAIL_FAST := PySem.W.mg_of X G y_FAIL_FAST
  have c_FIRST_FAILURE := PySem.W.mg_of X G y_FIRST_FAILURE
  have c_FLAGS := PySem.W.mg_of X G y_FLAGS
  have q_FLAGS : ∀ H, SqT K H a_FLAGS (v_FLAGS.map V.str) := fun H => .inr ⟨_, _, _, x_FLAGS, rfl, rfl, by show 8 ≤ sizeLine; decide, (.cons ⟨_, rfl⟩ (.cons ⟨_, rfl⟩ (.cons ⟨_, rfl⟩ (.cons ⟨_, rfl⟩ (.cons ⟨_, rfl⟩ (.cons ⟨_, rfl⟩ (.cons ⟨_, rfl⟩ (.cons ⟨_, rfl⟩ .nil))))))))⟩
  have c_MARK_directives := PySem.W.mg_of X G y_MARK_directives
  have c_MARK_stages := PySem.W.mg_of X G y_MARK_stages
  have c_NORMALIZE := PySem.W.mg_of X G y_NORMALIZE
  have c_NO_BLANKLINE := PySem.W.mg_of X G y_NO_BLANKLINE
  have c_ONE_IS_NOT_TRUE := PySem.W.mg_of X G y_ONE_IS_NOT_TRUE
  have c_PASSED_OVER := PySem.W.mg_of X G y_PASSED_OVER
  have c_SHAPES := PySem.W.mg_of X G y_SHAPES
  have kd_SHAPES : KDict K w a_SHAPES _ _ := ⟨x_SHAPES, ⟨⟨_, _, rfl, h_SHAPES0_ok⟩, ⟨⟨_, _, rfl, h_SHAPES1_ok⟩, ⟨⟨_, _, rfl, h_SHAPES2_ok⟩, ⟨⟨_, _, rfl, h_SHAPES3_ok⟩, ⟨⟨_, _, rfl, h_SHAPES4_ok⟩, ⟨⟨_, _, rfl, h_SHAPES5_ok⟩, trivial⟩⟩⟩⟩⟩⟩, w_SHAPES⟩
  have g_SHAPES : ∀ z : Str, ∃ r, PySem.W.nsIn K a_SHAPES z = some r ∧ RelV (v_SHAPES (fun i => [A_SHAPES0, A_SHAPES1, A_SHAPES2, A_SHAPES3, A_SHAPES4, A_SHAPES5].getD i 0) z) (r.getD .none) := dict_SHAPES x_SHAPES
  have p_SHAPES : ∀ (i : Nat) (t : List Str), tv_SHAPES[i]? = some t → ∀ H, SqT K H ((fun i => [A_SHAPES0, A_SHAPES1, A_SHAPES2, A_SHAPES3, A_SHAPES4, A_SHAPES5].getD i 0) i) (t.map V.str) := fun i t e H => match i, e with
    | 0, e => by
      cases e
      exact .inr ⟨_, _, _, xp_SHAPES0, rfl, rfl, by show 1 ≤ sizeLine; decide, (.cons ⟨_, rfl⟩ .nil)⟩
    | 1, e => by
      cases e
      exact .inr ⟨_, _, _, xp_SHAPES1, rfl, rfl, by show 1 ≤ sizeLine; decide, (.cons ⟨_, rfl⟩ .nil)⟩
    | 2, e => by
      cases e
      exact .inr ⟨_, _, _, xp_SHAPES2, rfl, rfl, by show 2 ≤ sizeLine; decide, (.cons ⟨_, rfl⟩ (.cons ⟨_, rfl⟩ .nil))⟩
    | 3, e => by
      cases e
      exact .inr ⟨_, _, _, xp_SHAPES3, rfl, rfl, by show 2 ≤ sizeLine; decide, (.cons ⟨_, rfl⟩ (.cons ⟨_, rfl⟩ .nil))⟩
    | 4, e => by
      cases e
      exact .inr ⟨_, _, _, xp_SHAPES4, rfl, rfl, by show 1 ≤ sizeLine; decide, (.cons ⟨_, rfl⟩ .nil)⟩
    | 5, e => by
      cases e
      exact .inr ⟨_, _, _, xp_SHAPES5, rfl, rfl, by show 2 ≤ sizeLine; decide, (.cons ⟨_, rfl⟩ (.cons ⟨_, rfl⟩ .nil))⟩
    | n + 6, e => by cases e
  have c_SKIP := PySem.W.mg_of X G y_SKIP
  have c_SKIPPED := PySem.W.mg_of X G y_SKIPPED
  have c_STARS := PySem.W.mg_of X G y_STARS
  have c_SUCCESS := PySem.W.mg_of X G y_SUCCESS
  have c_TRIED := PySem.W.mg_of X G y_TRIED
  have c_TRUTHS := PySem.W.mg_of X G y_TRUTHS
  have kd_TRUTHS : KDict K w a_TRUTHS _ _ := ⟨x_TRUTHS, ⟨⟨_, _, rfl, h_TRUTHS0_ok⟩, ⟨⟨_, _, rfl, h_TRUTHS1_ok⟩, trivial⟩⟩, w_TRUTHS⟩
  have g_TRUTHS : ∀ z : Str, ∃ r, PySem.W.nsIn K a_TRUTHS z = some r ∧ RelV (v_TRUTHS z) (r.getD .none) := dict_TRUTHS x_TRUTHS
  refine ⟨PySem.W.fnOf "law" "law" (defArgs s_law) (defBody s_law) (defScope s_law) .none kV59 dc59 pm59 an59 cd59 ct59, fun s v => .of_eq rfl, fun base _ _ => ?_⟩
  have O_is_flag : Own l.prog w K mg base "is_flag" 1 ["thing"] [] (sp_is_flag) := by
    exact ⟨_, _, [], ok_is_flag F1 m_isinstance m_str c_FLAGS q_FLAGS, PySem.W.mg_of X G a1, F1.kp, F1.bindsN (ps := ["thing"]) (fun _ _ _ _ _ _ us hl => match us, hl with | [_], _ => rfl), .nil⟩
  have O_in_force : Own l.prog w K mg base "in_force" 1 ["flags", "options"] [] (sp_in_force K) := by
    exact ⟨_, _, [], ok_in_force F3 c_FLAGS q_FLAGS, PySem.W.mg_of X G a3, F3.kp, F3.bindsN (ps := ["flags", "options"]) (fun _ _ _ _ _ _ us hl => match us, hl with | [_, _], _ => rfl), .nil⟩
  have O_is_blank : Own l.prog w K mg base "is_blank" 1 ["line"] [] (sp_is_blank) := by
    exact ⟨_, _, [], ok_is_blank F4 c_BLANKS, PySem.W.mg_of X G a4, F4.kp, F4.bindsN (ps := ["line"]) (fun _ _ _ _ _ _ us hl => match us, hl with | [_], _ => rfl), .nil⟩
  have O_has_pieces : Own l.prog w K mg base "has_pieces" 1 ["pieces", "got"] [] (sp_has_pieces) := by
    exact ⟨_, _, [], ok_has_pieces F8 m_len, PySem.W.mg_of X G a8, F8.kp, F8.bindsN (ps := ["pieces", "got"]) (fun _ _ _ _ _ _ us hl => match us, hl with | [_, _], _ => rfl), .nil⟩
  have O_indented : Own l.prog w K mg base "indented" 1 ["text"] [] (sp_indented) := by
    exact ⟨_, _, [], ok_indented F10, PySem.W.mg_of X G a10, F10.kp, F10.bindsN (ps := ["text"]) (fun _ _ _ _ _ _ us hl => match us, hl with | [_], _ => rfl), .nil⟩
  have O_blanks_marked : Own l.prog w K mg base "blanks_marked" 1 ["got"] [] (sp_blanks_marked) := by
    exact ⟨_, _, [], ok_blanks_marked F12 c_MARK_stages, PySem.W.mg_of X G a12, F12.kp, F12.bindsN (ps := ["got"]) (fun _ _ _ _ _ _ us hl => match us, hl with | [_], _ => rfl), .nil⟩
  have O_kept_lines : Own l.prog w K mg base "kept_lines" 1 ["text"] [] (sp_kept_lines) := by
    exact ⟨_, _, [], ok_kept_lines F14, PySem.W.mg_of X G a14, F14.kp, F14.bindsN (ps := ["text"]) (fun _ _ _ _ _ _ us hl => match us, hl with | [_], _ => rfl), .nil⟩
  have O_fed : Own l.prog w K mg base "fed" 1 ["text"] [] (sp_fed) := by
    exact ⟨_, _, [], ok_fed F16, PySem.W.mg_of X G a16, F16.kp, F16.bindsN (ps := ["text"]) (fun _ _ _ _ _ _ us hl => match us, hl with | [_], _ => rfl), .nil⟩
  have O_is_text : Own l.prog w K mg base "is_text" 1 ["thing"] [] (sp_is_text) := by
    exact ⟨_, _, [], ok_is_text F17 m_isinstance m_str, PySem.W.mg_of X G a17, F17.kp, F17.bindsN (ps := ["thing"]) (fun _ _ _ _ _ _ us hl => match us, hl with | [_], _ => rfl), .nil⟩
  have O_held_names : Own l.prog w K mg base "held_names" 1 ["names"] [] (sp_held_names) := by
    exact ⟨_, _, [], ok_held_names F18, PySem.W.mg_of X G a18, F18.kp, F18.bindsN (ps := ["names"]) (fun _ _ _ _ _ _ us hl => match us, hl with | [_], _ => rfl), .nil⟩
  have O_done : Own l.prog w K mg base "done" 1 ["deed", "names"] [] (sp_done) := by
    exact ⟨_, _, [], ok_done F25, PySem.W.mg_of X G a25, F25.kp, F25.bindsN (ps := ["deed", "names"]) (fun _ _ _ _ _ _ us hl => match us, hl with | [_, _], _ => rfl), .nil⟩
  have O_has_failed : Own l.prog w K mg base "has_failed" 1 ["word"] [] (sp_has_failed) := by
    exact ⟨_, _, [], ok_has_failed F29 c_ERROR c_FAILURE, PySem.W.mg_of X G a29, F29.kp, F29.bindsN (ps := ["word"]) (fun _ _ _ _ _ _ us hl => match us, hl with | [_], _ => rfl), .nil⟩
  have O_got_in_all : Own l.prog w K mg base "got_in_all" 1 ["got", "error"] [] (sp_got_in_all) := by
    exact ⟨_, _, [], ok_got_in_all F30, PySem.W.mg_of X G a30, F30.kp, F30.bindsN (ps := ["got", "error"]) (fun _ _ _ _ _ _ us hl => match us, hl with | [_, _], _ => rfl), .nil⟩
  have O_place_of : Own l.prog w K mg base "place_of" 1 ["test", "example"] [] (sp_place_of C_Example C_Test) := by
    exact ⟨_, _, [], ok_place_of F33 T_Example T_Test, PySem.W.mg_of X G a33, F33.kp, F33.bindsN (ps := ["test", "example"]) (fun _ _ _ _ _ _ us hl => match us, hl with | [_, _], _ => rfl), .nil⟩
  have O_summed : Own l.prog w K mg base "summed" 1 ["many"] [] (sp_summed) := by
    exact ⟨_, _, [], ok_summed F35 m_sum m_tuple c_FAILED c_PASSED_OVER c_TRIED, PySem.W.mg_of X G a35, F35.kp, F35.bindsN (ps := ["many"]) (fun _ _ _ _ _ _ us hl => match us, hl with | [_], _ => rfl), .nil⟩
  have O_number_of : Own l.prog w K mg base "number_of" 1 ["number", "word"] [] (sp_number_of) := by
    exact ⟨_, _, [], ok_number_of F36, PySem.W.mg_of X G a36, F36.kp, F36.bindsN (ps := ["number", "word"]) (fun _ _ _ _ _ _ us hl => match us, hl with | [_, _], _ => rfl), .nil⟩
  have O_passed_line : Own l.prog w K mg base "passed_line" 1 ["name", "tried"] [] (sp_passed_line) := by
    exact ⟨_, _, [], ok_passed_line F40 z_dg1 z_dg, PySem.W.mg_of X G a40, F40.kp, F40.bindsN (ps := ["name", "tried"]) (fun _ _ _ _ _ _ us hl => match us, hl with | [_, _], _ => rfl), .nil⟩
  have O_failed_line : Own l.prog w K mg base "failed_line" 1 ["name", "counts"] [] (sp_failed_line) := by
    exact ⟨_, _, [], ok_failed_line F42 c_FAILED c_TRIED z_dg1 z_dg, PySem.W.mg_of X G a42, F42.kp, F42.bindsN (ps := ["name", "counts"]) (fun _ _ _ _ _ _ us hl => match us, hl with | [_, _], _ => rfl), .nil⟩
  have O_directive_of : Own l.prog w K mg base "directive_of" 1 ["line"] [] (sp_directive_of) := by
    exact ⟨_, _, [], ok_directive_of F46 m_max c_BLANKS c_MARK_directives, PySem.W.mg_of X G a46, F46.kp, F46.bindsN (ps := ["line"]) (fun _ _ _ _ _ _ us hl => match us, hl with | [_], _ => rfl), .nil⟩
  have O_law_draws : Own l.prog w K mg base "_law_draws" 1 ["script"] [] (sp_law_draws K) := by
    exact ⟨_, _, [], ok_law_draws F49, PySem.W.mg_of X G a49, F49.kp, F49.bindsN (ps := ["script"]) (fun _ _ _ _ _ _ us hl => match us, hl with | [_], _ => rfl), .nil⟩
  have O_law_mixed : Own l.prog w K mg base "_law_mixed" 1 ["seed", "k"] [] (sp_law_mixed) := by
    exact ⟨_, _, [], ok_law_mixed F50 m_int, PySem.W.mg_of X G a50, F50.kp, F50.bindsN (ps := ["seed", "k"]) (fun _ _ _ _ _ _ us hl => match us, hl with | [_, _], _ => rfl), .nil⟩
  have O_law_totals : Own l.prog w K mg base "_law_totals" 1 ["items", "name", "counts"] [] (sp_law_totals) := by
    exact ⟨_, _, [], ok_law_totals F54 m_tuple m_zip, PySem.W.mg_of X G a54, F54.kp, F54.bindsN (ps := ["items", "name", "counts"]) (fun _ _ _ _ _ _ us hl => match us, hl with | [_, _, _], _ => rfl), .nil⟩
  have O_law_sum : Own l.prog w K mg base "_law_sum" 1 ["items"] [] (sp_law_sum) := by
    exact ⟨_, _, [], ok_law_sum F55 m_range m_sum m_tuple, PySem.W.mg_of X G a55, F55.kp, F55.bindsN (ps := ["items"]) (fun _ _ _ _ _ _ us hl => match us, hl with | [_], _ => rfl), .nil⟩
  have O_law_many : Own l.prog w K mg base "_law_many" 1 ["number", "word"] [] (sp_law_many) := by
    exact ⟨_, _, [], ok_law_many F56 m_int m_str, PySem.W.mg_of X G a56, F56.kp, F56.bindsN (ps := ["number", "word"]) (fun _ _ _ _ _ _ us hl => match us, hl with | [_, _], _ => rfl), .nil⟩
  have O_Test_examples : OwnM l.prog w K mg base C_Test "examples" 1 ["self"] [] (sp_Test_examples C_Test) := by
    exact ⟨_, _, [], T_Test.cl, ⟨a65, i65, k65⟩, ok_Test_examples F65 T_Test m_list, F65.bindsN (ps := ["self"]) (fun _ _ _ _ _ _ us hl => match us, hl with | [_], _ => rfl), .nil⟩
  have O_Test_forget : OwnM l.prog w K mg base C_Test "forget" 1 ["self"] [] (sp_Test_forget C_Test) := by
    exact ⟨_, _, [], T_Test.cl, ⟨a67, i67, k67⟩, ok_Test_forget F67 T_Test, F67.bindsN (ps := ["self"]) (fun _ _ _ _ _ _ us hl => match us, hl with | [_], _ => rfl), .nil⟩
  have O_Runner_counts : OwnM l.prog w K mg base C_Runner "counts" 1 ["self"] [] (sp_Runner_counts C_Runner) := by
    exact ⟨_, _, [], T_Runner.cl, ⟨a72, i72, k72⟩, ok_Runner_counts F72 T_Runner m_sorted, F72.bindsN (ps := ["self"]) (fun _ _ _ _ _ _ us hl => match us, hl with | [_], _ => rfl), .nil⟩
  have O_require_flags : Own l.prog w K mg base "require_flags" 2 ["flags"] [] (sp_require_flags) := by
    exact ⟨_, _, [], ok_require_flags F2 O_is_flag, PySem.W.mg_of X G a2, F2.kp, F2.bindsN (ps := ["flags"]) (fun _ _ _ _ _ _ us hl => match us, hl with | [_], _ => rfl), .nil⟩
  have O_is_mark : Own l.prog w K mg base "is_mark" 2 ["line"] [] (sp_is_mark) := by
    exact ⟨_, _, [], ok_is_mark F5 O_is_blank m_len c_MARK_stages, PySem.W.mg_of X G a5, F5.kp, F5.bindsN (ps := ["line"]) (fun _ _ _ _ _ _ us hl => match us, hl with | [_], _ => rfl), .nil⟩
  have O_blanks_emptied : Own l.prog w K mg base "blanks_emptied" 2 ["got"] [] (sp_blanks_emptied) := by
    exact ⟨_, _, [], ok_blanks_emptied F7 O_is_blank, PySem.W.mg_of X G a7, F7.kp, F7.bindsN (ps := ["got"]) (fun _ _ _ _ _ _ us hl => match us, hl with | [_], _ => rfl), .nil⟩
  have O_told : Own l.prog w K mg base "told" 2 ["head", "text"] [] (sp_told) := by
    exact ⟨_, _, [], ok_told F11 O_indented, PySem.W.mg_of X G a11, F11.kp, F11.bindsN (ps := ["head", "text"]) (fun _ _ _ _ _ _ us hl => match us, hl with | [_, _], _ => rfl), .nil⟩
  have O_lines_of : Own l.prog w K mg base "lines_of" 2 ["text"] [] (sp_lines_of) := by
    exact ⟨_, _, [], ok_lines_of F15 O_kept_lines, PySem.W.mg_of X G a15, F15.kp, F15.bindsN (ps := ["text"]) (fun _ _ _ _ _ _ us hl => match us, hl with | [_], _ => rfl), .nil⟩
  have O_fits : Own l.prog w K mg base "fits" 2 ["thing", "kind"] [] (sp_fits) := by
    exact ⟨_, _, [], ok_fits F19 O_is_text, PySem.W.mg_of X G a19, F19.kp, F19.bindsN (ps := ["thing", "kind"]) (fun _ _ _ _ _ _ us hl => match us, hl with | [_, _], _ => rfl), .nil⟩
  have O_played : Own l.prog w K mg base "played" 2 ["play", "source", "names"] [] (sp_played) := by
    exact ⟨_, _, [], ok_played F24 O_done, PySem.W.mg_of X G a24, F24.kp, F24.bindsN (ps := ["play", "source", "names"]) (fun _ _ _ _ _ _ us hl => match us, hl with | [_, _, _], _ => rfl), .nil⟩
  have O_ended : Own l.prog w K mg base "ended" 2 ["printed"] [] (sp_ended) := by
    exact ⟨_, _, [], ok_ended F26 O_fed, PySem.W.mg_of X G a26, F26.kp, F26.bindsN (ps := ["printed"]) (fun _ _ _ _ _ _ us hl => match us, hl with | [_], _ => rfl), .nil⟩
  have O_counts_of : Own l.prog w K mg base "counts_of" 2 ["words"] [] (sp_counts_of) := by
    exact ⟨_, _, [], ok_counts_of F34 O_has_failed m_len c_SKIPPED, PySem.W.mg_of X G a34, F34.kp, F34.bindsN (ps := ["words"]) (fun _ _ _ _ _ _ us hl => match us, hl with | [_], _ => rfl), .nil⟩
  have O_headed : Own l.prog w K mg base "headed" 2 ["head", "lines"] [] (sp_headed) := by
    exact ⟨_, _, [], ok_headed F43 O_number_of m_len, PySem.W.mg_of X G a43, F43.kp, F43.bindsN (ps := ["head", "lines"]) (fun _ _ _ _ _ _ us hl => match us, hl with | [_, _], _ => rfl), .nil⟩
  have O_total_lines : Own l.prog w K mg base "total_lines" 2 ["counts"] [] (sp_total_lines) := by
    exact ⟨_, _, [], ok_total_lines F44 O_summed O_number_of m_len m_list, PySem.W.mg_of X G a44, F44.kp, F44.bindsN (ps := ["counts"]) (fun _ _ _ _ _ _ us hl => match us, hl with | [_], _ => rfl), .nil⟩
  have O_last_lines : Own l.prog w K mg base "last_lines" 2 ["counts", "verbose"] [] (sp_last_lines) := by
    exact ⟨_, _, [], ok_last_lines F45 O_summed O_number_of m_list, PySem.W.mg_of X G a45, F45.kp, F45.bindsN (ps := ["counts", "verbose"]) (fun _ _ _ _ _ _ us hl => match us, hl with | [_, _], _ => rfl), .nil⟩
  have O_bare_line : Own l.prog w K mg base "bare_line" 2 ["line"] [] (sp_bare_line) := by
    exact ⟨_, _, [], ok_bare_line F48 O_directive_of c_BLANKS, PySem.W.mg_of X G a48, F48.kp, F48.bindsN (ps := ["line"]) (fun _ _ _ _ _ _ us hl => match us, hl with | [_], _ => rfl), .nil⟩
  have O_law_take : Own l.prog w K mg base "_law_take" 2 ["draws", "size"] [] (sp_law_take) := by
    exact ⟨_, _, [], ok_law_take F51 O_law_mixed m_int m_len, PySem.W.mg_of X G a51, F51.kp, F51.bindsN (ps := ["draws", "size"]) (fun _ _ _ _ _ _ us hl => match us, hl with | [_, _], _ => rfl), .nil⟩
  have O_law_last_rows : Own l.prog w K mg base "_law_last_rows" 2 ["items", "loud"] [] (sp_law_last_rows) := by
    exact ⟨_, _, [], ok_law_last_rows F58 O_law_sum O_law_many m_len m_str, PySem.W.mg_of X G a58, F58.kp, F58.bindsN (ps := ["items", "loud"]) (fun _ _ _ _ _ _ us hl => match us, hl with | [_, _], _ => rfl), .nil⟩
  have O_require_flags0 : Own l.prog w K mg base "require_flags" 2 ["flags"] [] (sp_require_flags0 K) := by
    exact ⟨_, _, [], ok_require_flags0 F60 O_is_flag, PySem.W.mg_of X G a60, F60.kp, F60.bindsN (ps := ["flags"]) (fun _ _ _ _ _ _ us hl => match us, hl with | [_], _ => rfl), .nil⟩
  have O_Test_init_d4 : OwnI l.prog w K mg base "Test" C_Test 2 ["self", "examples", "names", "name", "file", "line"] [.non, .non] (sp_Test_init C_Test) := by
    obtain ⟨ds, vd, bd⟩ := F63.binds1 (ps := ["self", "examples", "names", "name", "file", "line"]) 4 2 (by simp) rfl (fun T kV doc pm an cdv ct us its h1 h2 => match us, its, h1, h2 with | [_, _, _, _], [_, _, _, _], _, _ => ⟨_, rfl, rfl⟩)
    exact ⟨_, _, ds, ⟨mk_Test, a63, i63, kc_Test⟩, ok_Test_init F63 T_Test O_held_names m_list, bd, vd, PySem.W.mg_of X G aC_Test⟩
  have O_Runner_tally : OwnM l.prog w K mg base C_Runner "tally" 2 ["self", "name", "counts"] [] (sp_Runner_tally C_Runner) := by
    exact ⟨_, _, [], T_Runner.cl, ⟨a70, i70, k70⟩, ok_Runner_tally F70 T_Runner O_summed, F70.bindsN (ps := ["self", "name", "counts"]) (fun _ _ _ _ _ _ us hl => match us, hl with | [_, _, _], _ => rfl), .nil⟩
  have O_Runner_total : OwnM l.prog w K mg base C_Runner "total" 2 ["self"] [] (sp_Runner_total C_Runner) := by
    exact ⟨_, _, [], T_Runner.cl, ⟨a71, i71, k71⟩, ok_Runner_total F71 T_Runner O_summed m_list, F71.bindsN (ps := ["self"]) (fun _ _ _ _ _ _ us hl => match us, hl with | [_], _ => rfl), .nil⟩
  have O_marks_emptied : Own l.prog w K mg base "marks_emptied" 3 ["want"] [] (sp_marks_emptied) := by
    exact ⟨_, _, [], ok_marks_emptied F6 O_is_mark, PySem.W.mg_of X G a6, F6.kp, F6.bindsN (ps := ["want"]) (fun _ _ _ _ _ _ us hl => match us, hl with | [_], _ => rfl), .nil⟩
  have O_difference_text : Own l.prog w K mg base "difference_text" 3 ["want", "got", "flags"] [] (sp_difference_text K) := by
    obtain ⟨ds, vd, bd⟩ := F13.binds1 (ps := ["want", "got", "flags"]) 3 1 (by simp) rfl (fun T kV doc pm an cdv ct us its h1 h2 => match us, its, h1, h2 with | [_, _, _], [_], _, _ => ⟨_, rfl, rfl⟩)
    exact ⟨_, _, ds, ok_difference_text F13 O_require_flags0 O_blanks_marked O_told c_NO_BLANKLINE, PySem.W.mg_of X G a13, F13.kp, bd, vd⟩
  have O_is_deed : Own l.prog w K mg base "is_deed" 3 ["thing"] [] (sp_is_deed) := by
    exact ⟨_, _, [], ok_is_deed F20 O_is_text O_fits m_all m_isinstance m_len m_list m_tuple m_zip c_SHAPES kd_SHAPES g_SHAPES p_SHAPES, PySem.W.mg_of X G a20, F20.kp, F20.bindsN (ps := ["thing"]) (fun _ _ _ _ _ _ us hl => match us, hl with | [_], _ => rfl), .nil⟩
  have O_untried_lines : Own l.prog w K mg base "untried_lines" 3 ["counts"] [] (sp_untried_lines) := by
    exact ⟨_, _, [], ok_untried_lines F38 O_headed c_TRIED, PySem.W.mg_of X G a38, F38.kp, F38.bindsN (ps := ["counts"]) (fun _ _ _ _ _ _ us hl => match us, hl with | [_], _ => rfl), .nil⟩
  have O_passed_lines : Own l.prog w K mg base "passed_lines" 3 ["counts"] [] (sp_passed_lines) := by
    exact ⟨_, _, [], ok_passed_lines F39 O_headed O_passed_line c_FAILED c_TRIED, PySem.W.mg_of X G a39, F39.kp, F39.bindsN (ps := ["counts"]) (fun _ _ _ _ _ _ us hl => match us, hl with | [_], _ => rfl), .nil⟩
  have O_failed_lines : Own l.prog w K mg base "failed_lines" 3 ["counts"] [] (sp_failed_lines) := by
    exact ⟨_, _, [], ok_failed_lines F41 O_headed O_failed_line c_FAILED c_STARS, PySem.W.mg_of X G a41, F41.kp, F41.bindsN (ps := ["counts"]) (fun _ _ _ _ _ _ us hl => match us, hl with | [_], _ => rfl), .nil⟩
  have O_bare_of : Own l.prog w K mg base "bare_of" 3 ["source"] [] (sp_bare_of) := by
    exact ⟨_, _, [], ok_bare_of F47 O_lines_of O_bare_line, PySem.W.mg_of X G a47, F47.kp, F47.bindsN (ps := ["source"]) (fun _ _ _ _ _ _ us hl => match us, hl with | [_], _ => rfl), .nil⟩
  have O_law_pick : Own l.prog w K mg base "_law_pick" 3 ["draws", "some"] [] (sp_law_pick) := by
    exact ⟨_, _, [], ok_law_pick F53 O_law_take m_len, PySem.W.mg_of X G a53, F53.kp, F53.bindsN (ps := ["draws", "some"]) (fun _ _ _ _ _ _ us hl => match us, hl with | [_, _], _ => rfl), .nil⟩
  have O_law_summary : Own l.prog w K mg base "_law_summary" 3 ["items", "loud"] [] (sp_law_summary) := by
    exact ⟨_, _, [], ok_law_summary F57 O_law_many O_law_last_rows m_int m_len m_range m_sorted m_str, PySem.W.mg_of X G a57, F57.kp, F57.bindsN (ps := ["items", "loud"]) (fun _ _ _ _ _ _ us hl => match us, hl with | [_, _], _ => rfl), .nil⟩
  have O_held0 : Own l.prog w K mg base "held" 3 ["thing"] [] (sp_held0 3) := by
    have key : ∀ n, Own l.prog w K mg base "held" n ["thing"] [] (sp_held0 n) := fun n => by
      induction n with
      | zero => exact ⟨_, _, [], fnok_no fun _ _ _ _ h => sp_held0_no h, PySem.W.mg_of X G a61, F61.kp, F61.bindsN (ps := ["thing"]) (fun _ _ _ _ _ _ us hl => match us, hl with | [_], _ => rfl), .nil⟩
      | succ n O_held0 => exact ⟨_, _, [], ok_held0 F61 O_held0 m_dict m_isinstance m_list m_tuple, PySem.W.mg_of X G a61, F61.kp, F61.bindsN (ps := ["thing"]) (fun _ _ _ _ _ _ us hl => match us, hl with | [_], _ => rfl), .nil⟩
    exact key 3
  have O_Runner_ended_run : OwnM l.prog w K mg base C_Runner "ended_run" 3 ["self", "test", "words", "clear"] [] (sp_Runner_ended_run C_Test C_Runner) := by
    exact ⟨_, _, [], T_Runner.cl, ⟨a69, i69, k69⟩, ok_Runner_ended_run F69 T_Test T_Runner O_Test_forget O_counts_of O_Runner_tally, F69.bindsN (ps := ["self", "test", "words", "clear"]) (fun _ _ _ _ _ _ us hl => match us, hl with | [_, _, _, _], _ => rfl), .nil⟩
  have O_held : Own l.prog w K mg base "held" 4 ["thing"] [] (sp_held) := by
    exact ⟨_, _, [], ok_held F0 O_held0 m_dict m_isinstance m_list m_tuple, PySem.W.mg_of X G a0, F0.kp, F0.bindsN (ps := ["thing"]) (fun _ _ _ _ _ _ us hl => match us, hl with | [_], _ => rfl), .nil⟩
  have O_lets_by : Own l.prog w K mg base "lets_by" 4 ["want", "got", "flags"] [] (sp_lets_by K) := by
    exact ⟨_, _, [], ok_lets_by F9 O_marks_emptied O_blanks_emptied O_has_pieces c_DOTS c_ELLIPSIS c_NORMALIZE c_NO_BLANKLINE c_ONE_IS_NOT_TRUE c_TRUTHS kd_TRUTHS g_TRUTHS, PySem.W.mg_of X G a9, F9.kp, F9.bindsN (ps := ["want", "got", "flags"]) (fun _ _ _ _ _ _ us hl => match us, hl with | [_, _, _], _ => rfl), .nil⟩
  have O_is_act : Own l.prog w K mg base "is_act" 4 ["thing"] [] (sp_is_act) := by
    exact ⟨_, _, [], ok_is_act F21 O_is_deed m_all m_isinstance m_list m_tuple, PySem.W.mg_of X G a21, F21.kp, F21.bindsN (ps := ["thing"]) (fun _ _ _ _ _ _ us hl => match us, hl with | [_], _ => rfl), .nil⟩
  have O_failure_report : Own l.prog w K mg base "failure_report" 4 ["test", "example", "outcome", "flags"] [] (sp_failure_report K C_Example C_Test) := by
    exact ⟨_, _, [], ok_failure_report F32 T_Example T_Test O_difference_text O_got_in_all O_place_of O_indented c_ERROR c_STARS, PySem.W.mg_of X G a32, F32.kp, F32.bindsN (ps := ["test", "example", "outcome", "flags"]) (fun _ _ _ _ _ _ us hl => match us, hl with | [_, _, _, _], _ => rfl), .nil⟩
  have O_summary_of : Own l.prog w K mg base "summary_of" 4 ["counts", "verbose"] [] (sp_summary_of) := by
    exact ⟨_, _, [], ok_summary_of F37 O_failed_lines O_untried_lines O_passed_lines O_total_lines O_last_lines, PySem.W.mg_of X G a37, F37.kp, F37.bindsN (ps := ["counts", "verbose"]) (fun _ _ _ _ _ _ us hl => match us, hl with | [_, _], _ => rfl), .nil⟩
  have O_law_same : Own l.prog w K mg base "_law_same" 4 ["found", "due"] [] (sp_law_same 4) := by
    have key : ∀ n, Own l.prog w K mg base "_law_same" n ["found", "due"] [] (sp_law_same n) := fun n => by
      induction n with
      | zero => exact ⟨_, _, [], fnok_no fun _ _ _ _ h => sp_law_same_no h, PySem.W.mg_of X G a52, F52.kp, F52.bindsN (ps := ["found", "due"]) (fun _ _ _ _ _ _ us hl => match us, hl with | [_, _], _ => rfl), .nil⟩
      | succ n O_law_same => exact ⟨_, _, [], ok_law_same F52 O_law_same m_all m_bool m_dict m_int m_isinstance m_len m_list m_sorted m_tuple m_zip, PySem.W.mg_of X G a52, F52.kp, F52.bindsN (ps := ["found", "due"]) (fun _ _ _ _ _ _ us hl => match us, hl with | [_, _], _ => rfl), .nil⟩
    exact key 4
  have O_Example_init_p3 : OwnI l.prog w K mg base "Example" C_Example 4 ["self", "source", "want", "error", "line", "indent", "options"] [.non, .int 1, .int 0, .non] (sp_Example_init C_Example) := by
    obtain ⟨ds, vd, bd⟩ := F62.binds (ps := ["self", "source", "want", "error", "line", "indent", "options"]) 3 1 (by simp) rfl (fun T D doc pm an cdv ct us its ks h1 h2 h3 => match us, its, ks, h1, h2, h3 with | [_, _, _], [_], [_, _, _, _], _, _, _ => ⟨_, rfl, ⟨_, _, _, _, _, _, rfl, rfl, ⟨_, _, _, _, _, _, rfl, rfl, ⟨_, _, _, _, _, _, rfl, rfl, ⟨_, _, _, _, _, _, rfl, rfl, rfl⟩⟩⟩⟩⟩) (by simp)
    exact ⟨_, _, ds, ⟨mk_Example, a62, i62, kc_Example⟩, ok_Example_init F62 T_Example O_require_flags O_fed O_bare_of m_dict, bd, vd, PySem.W.mg_of X G aC_Example⟩
  have O_Example_init_q2_K_options : OwnG l.prog w K mg base "Example" C_Example 4 ["self", "source", "want", "error", "line", "indent", "options"] ["options"] 1 (gPut 4 [.str "", .non, .int 1, .int 0]) (sp_Example_init C_Example) := by
    obtain ⟨its, mv, hb⟩ := F62.kbinds (ps := ["self", "source", "want", "error", "line", "indent", "options"]) 2 ["options"] [("error", .non), ("line", .int 1), ("indent", .int 0)] (fun vs ds mz zs => vs ++ ((ds.drop 0 ++ mz).take 4 ++ (zs ++ (ds.drop 0 ++ mz).drop 4))) (by simp) (by simp) (by simp) (fun r1 r2 r3 r4 => vals_put 4 r1 (vals_app (r2.drop 0) r3) r4) (fun T D doc pm an cdv ct us its mv ws h1 h2 h3 h4 => match us, its, mv, ws, h1, h2, h3, h4 with | [_, _], [_], [_, _, _], [_], _, _, _, _ => ⟨_, rfl, ⟨_, _, _, _, _, _, rfl, rfl, ⟨_, _, _, _, _, _, rfl, rfl, ⟨_, _, _, _, _, _, rfl, rfl, rfl⟩⟩⟩⟩)
    exact ⟨_, _, _, ⟨mk_Example, a62, i62, kc_Example⟩, ok_Example_init F62 T_Example O_require_flags O_fed O_bare_of m_dict, hb, PySem.W.mg_of X G aC_Example⟩
  have O_is_play : Own l.prog w K mg base "is_play" 5 ["thing"] [] (sp_is_play) := by
    exact ⟨_, _, [], ok_is_play F22 O_is_text O_is_act m_all m_dict m_isinstance, PySem.W.mg_of X G a22, F22.kp, F22.bindsN (ps := ["thing"]) (fun _ _ _ _ _ _ us hl => match us, hl with | [_], _ => rfl), .nil⟩
  have O_word_of : Own l.prog w K mg base "word_of" 5 ["example", "got", "error", "flags"] [] (sp_word_of K C_Example) := by
    exact ⟨_, _, [], ok_word_of F28 T_Example O_lets_by c_FAILURE c_SUCCESS, PySem.W.mg_of X G a28, F28.kp, F28.bindsN (ps := ["example", "got", "error", "flags"]) (fun _ _ _ _ _ _ us hl => match us, hl with | [_, _, _, _], _ => rfl), .nil⟩
  have O_report_of : Own l.prog w K mg base "report_of" 5 ["test", "example", "outcome", "flags", "verbose"] [] (sp_report_of K C_Example C_Test) := by
    exact ⟨_, _, [], ok_report_of F31 T_Example T_Test O_has_failed O_failure_report, PySem.W.mg_of X G a31, F31.kp, F31.bindsN (ps := ["test", "example", "outcome", "flags", "verbose"]) (fun _ _ _ _ _ _ us hl => match us, hl with | [_, _, _, _, _], _ => rfl), .nil⟩
  have O_Runner_summary : OwnM l.prog w K mg base C_Runner "summary" 5 ["self", "verbose"] [] (sp_Runner_summary C_Runner) := by
    obtain ⟨ds, vd, bd⟩ := F73.binds1 (ps := ["self", "verbose"]) 2 1 (by simp) rfl (fun T kV doc pm an cdv ct us its h1 h2 => match us, its, h1, h2 with | [_, _], [_], _, _ => ⟨_, rfl, rfl⟩)
    exact ⟨_, _, ds, T_Runner.cl, ⟨a73, i73, k73⟩, ok_Runner_summary F73 T_Runner O_summary_of O_Runner_counts, bd, vd⟩
  have O_Runner_summary_d1 : OwnM l.prog w K mg base C_Runner "summary" 5 ["self", "verbose"] [.bl false] (sp_Runner_summary C_Runner) := by
    obtain ⟨ds, vd, bd⟩ := F73.binds1 (ps := ["self", "verbose"]) 1 0 (by simp) rfl (fun T kV doc pm an cdv ct us its h1 h2 => match us, its, h1, h2 with | [_], [_], _, _ => ⟨_, rfl, rfl⟩)
    exact ⟨_, _, ds, T_Runner.cl, ⟨a73, i73, k73⟩, ok_Runner_summary F73 T_Runner O_summary_of O_Runner_counts, bd, vd⟩
  have O_require_play : Own l.prog w K mg base "require_play" 6 ["thing"] [] (sp_require_play) := by
    exact ⟨_, _, [], ok_require_play F23 O_is_play, PySem.W.mg_of X G a23, F23.kp, F23.bindsN (ps := ["thing"]) (fun _ _ _ _ _ _ us hl => match us, hl with | [_], _ => rfl), .nil⟩
  have O_outcome_of : Own l.prog w K mg base "outcome_of" 6 ["example", "play", "names", "flags"] [] (sp_outcome_of K C_Example) := by
    exact ⟨_, _, [], ok_outcome_of F27 T_Example O_played O_ended O_word_of c_SKIP c_SKIPPED, PySem.W.mg_of X G a27, F27.kp, F27.bindsN (ps := ["example", "play", "names", "flags"]) (fun _ _ _ _ _ _ us hl => match us, hl with | [_, _, _, _], _ => rfl), .nil⟩
  have O_Runner_init_d2 : OwnI l.prog w K mg base "Runner" C_Runner 7 ["self", "play", "flags"] [.ref E64_0] (sp_Runner_init K C_Runner) := by
    obtain ⟨ds, vd, bd⟩ := F64.binds1 (ps := ["self", "play", "flags"]) 2 0 (by simp) rfl (fun T kV doc pm an cdv ct us its h1 h2 => match us, its, h1, h2 with | [_, _], [_], _, _ => ⟨_, rfl, rfl⟩)
    exact ⟨_, _, ds, ⟨mk_Runner, a64, i64, kc_Runner⟩, ok_Runner_init F64 T_Runner O_require_play O_require_flags0 O_held m_list, bd, vd, PySem.W.mg_of X G aC_Runner⟩
  have O_Test_tried : OwnM l.prog w K mg base C_Test "tried" 7 ["self", "example", "play", "flags"] [] (sp_Test_tried K C_Example C_Test) := by
    exact ⟨_, _, [], T_Test.cl, ⟨a66, i66, k66⟩, ok_Test_tried F66 T_Example T_Test O_outcome_of, F66.bindsN (ps := ["self", "example", "play", "flags"]) (fun _ _ _ _ _ _ us hl => match us, hl with | [_, _, _, _], _ => rfl), .nil⟩
  have O_Runner_run_d2 : OwnM l.prog w K mg base C_Runner "run" 8 ["self", "test", "verbose", "clear"] [.bl false, .bl true] (sp_Runner_run C_Example C_Test C_Runner) := by
    obtain ⟨ds, vd, bd⟩ := F68.binds0 (ps := ["self", "test", "verbose", "clear"]) 2 (by simp) rfl (fun D doc pm an cdv ct us ks h1 h2 => match us, ks, h1, h2 with | [_, _], [_, _], _, _ => ⟨_, _, _, _, _, _, rfl, rfl, ⟨_, _, _, _, _, _, rfl, rfl, rfl⟩⟩)
    exact ⟨_, _, ds, T_Runner.cl, ⟨a68, i68, k68⟩, ok_Runner_run F68 T_Example T_Test T_Runner O_Test_examples O_in_force O_Test_tried O_has_failed O_report_of O_Runner_ended_run c_FAIL_FAST c_FIRST_FAILURE c_SKIPPED, bd, vd⟩
  exact ok_law F59 T_Example T_Test T_Runner O_law_draws Q_E_Runner_init0 O_Runner_init_d2 O_law_take O_law_pick O_Example_init_p3 O_Example_init_q2_K_options O_Runner_run_d2 O_Test_init_d4 O_law_same O_law_totals O_Runner_total O_Runner_counts O_law_sum O_Runner_summary_d1 O_law_summary O_Runner_summary m_len m_range
end Pq
open PySem PySem.W PyProof.Rows
set_option maxRecDepth 100000 in
set_option maxHeartbeats 0 in
theorem PySem.Challenge.cw_promptyard_k53_summaries_of_many_holds : PySem.Challenge.rw_promptyard_k53_summaries_of_many.Holds := by
  w_on; o_law; k_head; (case hw => w_witness2)
  k_fill
  refine L2.walk_of (l := PySem.Challenge.rw_promptyard_k53_summaries_of_many) (n := 63) (k := 9) (x := "script") (CX := fun _ => L2.CX0) (sp := fun w => Pq.sp_law _) rfl (by decide) rfl ⟨rfl, by decide, by decide⟩ (fun w h Y => PySem.W.kIn_of Y) ?F (fun _ _ a ns hl _ hS => ⟨a, ns, rfl, hS, hl, fun _ => rfl⟩) (fun _ _ _ _ _ h => h)
  case F =>
    intro w mg fa h KX G hmg
    refine' Pq.all_mk KX G hmg ?a0 ?l0 ?e0 ?k0 ?a1 ?l1 ?e1 ?k1 ?a2 ?l2 ?e2 ?k2 ?a3 ?l3 ?e3 ?k3 ?a4 ?l4 ?e4 ?k4 ?a5 ?l5 ?e5 ?k5 ?a6 ?l6 ?e6 ?k6 ?a7 ?l7 ?e7 ?k7 ?a8 ?l8 ?e8 ?k8 ?a9 ?l9 ?e9 ?k9 ?a10 ?l10 ?e10 ?k10 ?a11 ?l11 ?e11 ?k11 ?a12 ?l12 ?e12 ?k12 ?a13 ?l13 ?e13 ?k13 ?t13 ?u13_0 ?a14 ?l14 ?e14 ?k14 ?a15 ?l15 ?e15 ?k15 ?a16 ?l16 ?e16 ?k16 ?a17 ?l17 ?e17 ?k17 ?a18 ?l18 ?e18 ?k18 ?a19 ?l19 ?e19 ?k19 ?a20 ?l20 ?e20 ?k20 ?a21 ?l21 ?e21 ?k21 ?a22 ?l22 ?e22 ?k22 ?a23 ?l23 ?e23 ?k23 ?a24 ?l24 ?e24 ?k24 ?a25 ?l25 ?e25 ?k25 ?a26 ?l26 ?e26 ?k26 ?a27 ?l27 ?e27 ?k27 ?a28 ?l28 ?e28 ?k28 ?a29 ?l29 ?e29 ?k29 ?a30 ?l30 ?e30 ?k30 ?a31 ?l31 ?e31 ?k31 ?a32 ?l32 ?e32 ?k32 ?a33 ?l33 ?e33 ?k33 ?a34 ?l34 ?e34 ?k34 ?a35 ?l35 ?e35 ?k35 ?a36 ?l36 ?e36 ?k36 ?a37 ?l37 ?e37 ?k37 ?a38 ?l38 ?e38 ?k38 ?a39 ?l39 ?e39 ?k39 ?a40 ?l40 ?e40 ?k40 ?a41 ?l41 ?e41 ?k41 ?a42 ?l42 ?e42 ?k42 ?a43 ?l43 ?e43 ?k43 ?a44 ?l44 ?e44 ?k44 ?a45 ?l45 ?e45 ?k45 ?a46 ?l46 ?e46 ?k46 ?a47 ?l47 ?e47 ?k47 ?a48 ?l48 ?e48 ?k48 ?a49 ?l49 ?e49 ?k49 ?a50 ?l50 ?e50 ?k50 ?a51 ?l51 ?e51 ?k51 ?a52 ?l52 ?e52 ?k52 ?a53 ?l53 ?e53 ?k53 ?a54 ?l54 ?e54 ?k54 ?a55 ?l55 ?e55 ?k55 ?a56 ?l56 ?e56 ?k56 ?a57 ?l57 ?e57 ?k57 ?a58 ?l58 ?e58 ?k58 ?a59 ?l59 ?e59 ?k59 ?a60 ?l60 ?e60 ?k60 ?a61 ?l61 ?e61 ?k61 ?a62 ?i62 ?l62 ?e62 ?k62 ?t62 ?w62_error ?w62_line ?w62_indent ?w62_options ?a63 ?i63 ?l63 ?e63 ?k63 ?t63 ?a64 ?i64 ?l64 ?e64 ?k64 ?t64 ?u64_0 ?a65 ?i65 ?l65 ?e65 ?k65 ?a66 ?i66 ?l66 ?e66 ?k66 ?a67 ?i67 ?l67 ?e67 ?k67 ?a68 ?i68 ?l68 ?e68 ?k68 ?w68_verbose ?w68_clear ?a69 ?i69 ?l69 ?e69 ?k69 ?a70 ?i70 ?l70 ?e70 ?k70 ?a71 ?i71 ?l71 ?e71 ?k71 ?a72 ?i72 ?l72 ?e72 ?k72 ?a73 ?i73 ?l73 ?e73 ?k73 ?t73 ?aC_Example ?pg_Example ?hd_Example ?po_Example ?sa_Example ?mk_Example ?kc_Example ?ha_Example ?hn_Example ?ht_Example ?hm_Example ?nf_Example_source ?nf_Example_want ?nf_Example_error ?nf_Example_line ?nf_Example_indent ?nf_Example_options ?nf_Example_bare ?aC_Test ?pg_Test ?hd_Test ?po_Test ?sa_Test ?mk_Test ?kc_Test ?ha_Test ?hn_Test ?ht_Test ?hm_Test ?nf_Test__names ?nf_Test__examples ?nf_Test_name ?nf_Test_file ?nf_Test_line ?aC_Runner ?pg_Runner ?hd_Runner ?po_Runner ?sa_Runner ?mk_Runner ?kc_Runner ?ha_Runner ?hn_Runner ?ht_Runner ?hm_Runner ?nf_Runner__play ?nf_Runner__flags ?nf_Runner__counts ?y_BLANKS ?y_DOTS ?y_ELLIPSIS ?y_ERROR ?y_FAILED ?y_FAILURE ?y_FAIL_FAST ?y_FIRST_FAILURE ?y_FLAGS ?x_FLAGS ?y_MARK_directives ?y_MARK_stages ?y_NORMALIZE ?y_NO_BLANKLINE ?y_ONE_IS_NOT_TRUE ?y_PASSED_OVER ?y_SHAPES ?x_SHAPES ?w_SHAPES ?h_SHAPES0_ok ?h_SHAPES1_ok ?h_SHAPES2_ok ?h_SHAPES3_ok ?h_SHAPES4_ok ?h_SHAPES5_ok ?xp_SHAPES0 ?xp_SHAPES1 ?xp_SHAPES2 ?xp_SHAPES3 ?xp_SHAPES4 ?xp_SHAPES5 ?y_SKIP ?y_SKIPPED ?y_STARS ?y_SUCCESS ?y_TRIED ?y_TRUTHS ?x_TRUTHS ?w_TRUTHS ?h_TRUTHS0_ok ?h_TRUTHS1_ok ?z_all ?z_bool ?z_dict ?z_int ?z_isinstance ?z_len ?z_list ?z_max ?z_range ?z_sorted ?z_str ?z_sum ?z_tuple ?z_zip ?z_dg1 ?z_dg
    (case aC_Example => k_is)
    (case aC_Test => k_is)
    (case aC_Runner => k_is)
    (case a0 => k_is)
    (case l0 => k_is)
    (case e0 => k_is)
    (case k0 => k_is)
    (case a1 => k_is)
    (case l1 => k_is)
    (case e1 => k_is)
    (case k1 => k_is)
    (case a2 => k_is)
    (case l2 => k_is)
    (case e2 => k_is)
    (case k2 => k_is)
    (case a3 => k_is)
    (case l3 => k_is)
    (case e3 => k_is)
    (case k3 => k_is)
    (case a4 => k_is)
    (case l4 => k_is)
    (case e4 => k_is)
    (case k4 => k_is)
    (case a5 => k_is)
    (case l5 => k_is)
    (case e5 => k_is)
    (case k5 => k_is)
    (case a6 => k_is)
    (case l6 => k_is)
    (case e6 => k_is)
    (case k6 => k_is)
    (case a7 => k_is)
    (case l7 => k_is)
    (case e7 => k_is)
    (case k7 => k_is)
    (case a8 => k_is)
    (case l8 => k_is)
    (case e8 => k_is)
    (case k8 => k_is)
    (case a9 => k_is)
    (case l9 => k_is)
    (case e9 => k_is)
    (case k9 => k_is)
    (case a10 => k_is)
    (case l10 => k_is)
    (case e10 => k_is)
    (case k10 => k_is)
    (case a11 => k_is)
    (case l11 => k_is)
    (case e11 => k_is)
    (case k11 => k_is)
    (case a12 => k_is)
    (case l12 => k_is)
    (case e12 => k_is)
    (case k12 => k_is)
    (case a13 => k_is)
    (case l13 => k_is)
    (case e13 => k_is)
    (case k13 => k_is)
    (case t13 => k_is)
    (case u13_0 => k_is)
    (case a14 => k_is)
    (case l14 => k_is)
    (case e14 => k_is)
    (case k14 => k_is)
    (case a15 => k_is)
    (case l15 => k_is)
    (case e15 => k_is)
    (case k15 => k_is)
    (case a16 => k_is)
    (case l16 => k_is)
    (case e16 => k_is)
    (case k16 => k_is)
    (case a17 => k_is)
    (case l17 => k_is)
    (case e17 => k_is)
    (case k17 => k_is)
    (case a18 => k_is)
    (case l18 => k_is)
    (case e18 => k_is)
    (case k18 => k_is)
    (case a19 => k_is)
    (case l19 => k_is)
    (case e19 => k_is)
    (case k19 => k_is)
    (case a20 => k_is)
    (case l20 => k_is)
    (case e20 => k_is)
    (case k20 => k_is)
    (case a21 => k_is)
    (case l21 => k_is)
    (case e21 => k_is)
    (case k21 => k_is)
    (case a22 => k_is)
    (case l22 => k_is)
    (case e22 => k_is)
    (case k22 => k_is)
    (case a23 => k_is)
    (case l23 => k_is)
    (case e23 => k_is)
    (case k23 => k_is)
    (case a24 => k_is)
    (case l24 => k_is)
    (case e24 => k_is)
    (case k24 => k_is)
    (case a25 => k_is)
    (case l25 => k_is)
    (case e25 => k_is)
    (case k25 => k_is)
    (case a26 => k_is)
    (case l26 => k_is)
    (case e26 => k_is)
    (case k26 => k_is)
    (case a27 => k_is)
    (case l27 => k_is)
    (case e27 => k_is)
    (case k27 => k_is)
    (case a28 => k_is)
    (case l28 => k_is)
    (case e28 => k_is)
    (case k28 => k_is)
    (case a29 => k_is)
    (case l29 => k_is)
    (case e29 => k_is)
    (case k29 => k_is)
    (case a30 => k_is)
    (case l30 => k_is)
    (case e30 => k_is)
    (case k30 => k_is)
    (case a31 => k_is)
    (case l31 => k_is)
    (case e31 => k_is)
    (case k31 => k_is)
    (case a32 => k_is)
    (case l32 => k_is)
    (case e32 => k_is)
    (case k32 => k_is)
    (case a33 => k_is)
    (case l33 => k_is)
    (case e33 => k_is)
    (case k33 => k_is)
    (case a34 => k_is)
    (case l34 => k_is)
    (case e34 => k_is)
    (case k34 => k_is)
    (case a35 => k_is)
    (case l35 => k_is)
    (case e35 => k_is)
    (case k35 => k_is)
    (case a36 => k_is)
    (case l36 => k_is)
    (case e36 => k_is)
    (case k36 => k_is)
    (case a37 => k_is)
    (case l37 => k_is)
    (case e37 => k_is)
    (case k37 => k_is)
    (case a38 => k_is)
    (case l38 => k_is)
    (case e38 => k_is)
    (case k38 => k_is)
    (case a39 => k_is)
    (case l39 => k_is)
    (case e39 => k_is)
    (case k39 => k_is)
    (case a40 => k_is)
    (case l40 => k_is)
    (case e40 => k_is)
    (case k40 => k_is)
    (case a41 => k_is)
    (case l41 => k_is)
    (case e41 => k_is)
    (case k41 => k_is)
    (case a42 => k_is)
    (case l42 => k_is)
    (case e42 => k_is)
    (case k42 => k_is)
    (case a43 => k_is)
    (case l43 => k_is)
    (case e43 => k_is)
    (case k43 => k_is)
    (case a44 => k_is)
    (case l44 => k_is)
    (case e44 => k_is)
    (case k44 => k_is)
    (case a45 => k_is)
    (case l45 => k_is)
    (case e45 => k_is)
    (case k45 => k_is)
    (case a46 => k_is)
    (case l46 => k_is)
    (case e46 => k_is)
    (case k46 => k_is)
    (case a47 => k_is)
    (case l47 => k_is)
    (case e47 => k_is)
    (case k47 => k_is)
    (case a48 => k_is)
    (case l48 => k_is)
    (case e48 => k_is)
    (case k48 => k_is)
    (case a49 => k_is)
    (case l49 => k_is)
    (case e49 => k_is)
    (case k49 => k_is)
    (case a50 => k_is)
    (case l50 => k_is)
    (case e50 => k_is)
    (case k50 => k_is)
    (case a51 => k_is)
    (case l51 => k_is)
    (case e51 => k_is)
    (case k51 => k_is)
    (case a52 => k_is)
    (case l52 => k_is)
    (case e52 => k_is)
    (case k52 => k_is)
    (case a53 => k_is)
    (case l53 => k_is)
    (case e53 => k_is)
    (case k53 => k_is)
    (case a54 => k_is)
    (case l54 => k_is)
    (case e54 => k_is)
    (case k54 => k_is)
    (case a55 => k_is)
    (case l55 => k_is)
    (case e55 => k_is)
    (case k55 => k_is)
    (case a56 => k_is)
    (case l56 => k_is)
    (case e56 => k_is)
    (case k56 => k_is)
    (case a57 => k_is)
    (case l57 => k_is)
    (case e57 => k_is)
    (case k57 => k_is)
    (case a58 => k_is)
    (case l58 => k_is)
    (case e58 => k_is)
    (case k58 => k_is)
    (case a59 => k_is)
    (case l59 => k_is)
    (case e59 => k_is)
    (case k59 => k_is)
    (case a60 => k_is)
    (case l60 => k_is)
    (case e60 => k_is)
    (case k60 => k_is)
    (case a61 => k_is)
    (case l61 => k_is)
    (case e61 => k_is)
    (case k61 => k_is)
    (case a62 => k_is)
    (case i62 => k_is)
    (case l62 => k_is)
    (case e62 => k_is)
    (case k62 => k_is)
    (case t62 => k_is)
    (case w62_error => k_is)
    (case w62_line => k_is)
    (case w62_indent => k_is)
    (case w62_options => k_is)
    (case a63 => k_is)
    (case i63 => k_is)
    (case l63 => k_is)
    (case e63 => k_is)
    (case k63 => k_is)
    (case t63 => k_is)
    (case a64 => k_is)
    (case i64 => k_is)
    (case l64 => k_is)
    (case e64 => k_is)
    (case k64 => k_is)
    (case t64 => k_is)
    (case u64_0 => k_is)
    (case a65 => k_is)
    (case i65 => k_is)
    (case l65 => k_is)
    (case e65 => k_is)
    (case k65 => k_is)
    (case a66 => k_is)
    (case i66 => k_is)
    (case l66 => k_is)
    (case e66 => k_is)
    (case k66 => k_is)
    (case a67 => k_is)
    (case i67 => k_is)
    (case l67 => k_is)
    (case e67 => k_is)
    (case k67 => k_is)
    (case a68 => k_is)
    (case i68 => k_is)
    (case l68 => k_is)
    (case e68 => k_is)
    (case k68 => k_is)
    (case w68_verbose => k_is)
    (case w68_clear => k_is)
    (case a69 => k_is)
    (case i69 => k_is)
    (case l69 => k_is)
    (case e69 => k_is)
    (case k69 => k_is)
    (case a70 => k_is)
    (case i70 => k_is)
    (case l70 => k_is)
    (case e70 => k_is)
    (case k70 => k_is)
    (case a71 => k_is)
    (case i71 => k_is)
    (case l71 => k_is)
    (case e71 => k_is)
    (case k71 => k_is)
    (case a72 => k_is)
    (case i72 => k_is)
    (case l72 => k_is)
    (case e72 => k_is)
    (case k72 => k_is)
    (case a73 => k_is)
    (case i73 => k_is)
    (case l73 => k_is)
    (case e73 => k_is)
    (case k73 => k_is)
    (case t73 => k_is)
    (case pg_Example => k_is)
    (case hd_Example => k_is)
    (case po_Example => k_is)
    (case sa_Example => k_is)
    (case mk_Example => k_is)
    (case kc_Example => k_is)
    (case ha_Example => k_is)
    (case hn_Example => k_is)
    (case ht_Example => k_is)
    (case hm_Example => k_is)
    (case nf_Example_source => k_is)
    (case nf_Example_want => k_is)
    (case nf_Example_error => k_is)
    (case nf_Example_line => k_is)
    (case nf_Example_indent => k_is)
    (case nf_Example_options => k_is)
    (case nf_Example_bare => k_is)
    (case pg_Test => k_is)
    (case hd_Test => k_is)
    (case po_Test => k_is)
    (case sa_Test => k_is)
    (case mk_Test => k_is)
    (case kc_Test => k_is)
    (case ha_Test => k_is)
    (case hn_Test => k_is)
    (case ht_Test => k_is)
    (case hm_Test => k_is)
    (case nf_Test__names => k_is)
    (case nf_Test__examples => k_is)
    (case nf_Test_name => k_is)
    (case nf_Test_file => k_is)
    (case nf_Test_line => k_is)
    (case pg_Runner => k_is)
    (case hd_Runner => k_is)
    (case po_Runner => k_is)
    (case sa_Runner => k_is)
    (case mk_Runner => k_is)
    (case kc_Runner => k_is)
    (case ha_Runner => k_is)
    (case hn_Runner => k_is)
    (case ht_Runner => k_is)
    (case hm_Runner => k_is)
    (case nf_Runner__play => k_is)
    (case nf_Runner__flags => k_is)
    (case nf_Runner__counts => k_is)
    (case y_BLANKS => k_is)
    (case y_DOTS => k_is)
    (case y_ELLIPSIS => k_is)
    (case y_ERROR => k_is)
    (case y_FAILED => k_is)
    (case y_FAILURE => k_is)
    (case y_FAIL_FAST => k_is)
    (case y_FIRST_FAILURE => k_is)
    (case y_FLAGS => k_is)
    (case x_FLAGS => k_is)
    (case y_MARK_directives => k_is)
    (case y_MARK_stages => k_is)
    (case y_NORMALIZE => k_is)
    (case y_NO_BLANKLINE => k_is)
    (case y_ONE_IS_NOT_TRUE => k_is)
    (case y_PASSED_OVER => k_is)
    (case y_SHAPES => k_is)
    (case x_SHAPES => k_is)
    (case w_SHAPES => first | rfl | k_is)
    (case h_SHAPES0_ok => first | rfl | k_is)
    (case h_SHAPES1_ok => first | rfl | k_is)
    (case h_SHAPES2_ok => first | rfl | k_is)
    (case h_SHAPES3_ok => first | rfl | k_is)
    (case h_SHAPES4_ok => first | rfl | k_is)
    (case h_SHAPES5_ok => first | rfl | k_is)
    (case xp_SHAPES0 => k_is)
    (case xp_SHAPES1 => k_is)
    (case xp_SHAPES2 => k_is)
    (case xp_SHAPES3 => k_is)
    (case xp_SHAPES4 => k_is)
    (case xp_SHAPES5 => k_is)
    (case y_SKIP => k_is)
    (case y_SKIPPED => k_is)
    (case y_STARS => k_is)
    (case y_SUCCESS => k_is)
    (case y_TRIED => k_is)
    (case y_TRUTHS => k_is)
    (case x_TRUTHS => k_is)
    (case w_TRUTHS => first | rfl | k_is)
    (case h_TRUTHS0_ok => first | rfl | k_is)
    (case h_TRUTHS1_ok => first | rfl | k_is)
    (case z_all => k_is)
    (case z_bool => k_is)
    (case z_dict => k_is)
    (case z_int => k_is)
    (case z_isinstance => k_is)
    (case z_len => k_is)
    (case z_list => k_is)
    (case z_max => k_is)
    (case z_range => k_is)
    (case z_sorted => k_is)
    (case z_str => k_is)
    (case z_sum => k_is)
    (case z_tuple => k_is)
    (case z_zip => k_is)
    (case z_dg1 => exact Pq.nsOk_of (by k_is) (by rfl))
    (case z_dg => first | rfl | k_is)

